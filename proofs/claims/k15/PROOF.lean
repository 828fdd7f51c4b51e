import PyProof.Rows.All
import Wide.All
import OpenK.AllK
import Wide.FinOn
import HandS.ForMost
import HandS.Set
import HandS.Exc
import HandS.Style
import HandS.Wide
import HandS.Flow
import KE.KDictKeyed
import HandS.Nested
import HandS.TupLen
import KE.SortData
import KE.SortLaws
import HandS.Conv
import HandS.DictComp
import HandS.IsInst
import HandS.Property
import HandS.TupLe
import HandS.Iter
import PyProof.ReprRoads
import PyProof.ReprLen
import PyProof.Rows.StrJoinRep
import PyProof.InstNe
import KE.KOpsOwn
import HandS.TryOnly
import HandS.More
import HandS.SetBool
import HandS.Comp
import HandS.SetFor
import HandS.ExcOwn
import HandS.WordsExc
import HandS.ExcInit
import HandS.ExcField
import HandS.ExcIs
import KE.KExcIs
import HandS.Deep
import KE.DataFind
import PyProof.Rows.ReprOcc
import HandS.Strs
import HandS.DictEq
import HandS.OwnEq
import KE.KDictZip
import HandS.ListItems
import HandS.HeadHook4
import KE.KDictDisplayH
import PySem.Challenge.RW_emptyfirst_k15_short_talks_tried
set_option Elab.async false
set_option linter.all false
set_option maxRecDepth 100000
set_option maxHeartbeats 4000000
namespace DL
open PySem L2 PySem.Spec PyProof.Rows

/-! ### sets of texts -/
def txtOf (e : Int × Value) : Str := match e.2 with
  | .str k _ => k
  | _ => ""
def TxtE (w : World) (e : Int × Value) : Prop := ∃ k t, e = (hashStr w k, Value.str k t)
/-- the set at a has these texts, in the order of its table -/
structure TxtSet (w : World) (h : Heap) (a : Addr) (ks : List Str) : Prop where
  ex : ∃ o es ep t, h.get? a = some o ∧ o.ExactSet ∧ o.data = .set es ep t ∧ (∀ e ∈ es.toList, TxtE w e) ∧ ks = es.toList.map txtOf ∧ ks.Nodup ∧ es.size < scanBound ∧ t.fits es.size = true ∧ Ris t.place.toList ∧ (w.params.followText "set-order" = true ∨ t.led = true)
/-- as a tracked thing -/
def TxtO (w : World) (a : Addr) (ks : List Str) : HO := .ext fun h => TxtSet w h a ks
end DL

namespace DL
open PySem L2

/-! ### data trees -/
inductive T where
  | non | bl (b : Bool) | int (i : Int) | str (x : Str)
  | lst (ts : List T) | tup (ts : List T)
  | obj (C : Addr) (ns : List Str) (ts : List T)
  | raw (v : V)
  | rl (ts : List T)
  | fn (q : NdefX.NF)
  | dN (ks vs : List T) | dK (ks : List Key) (vs : List T)

def Ex (H H' : Hp) : Prop := ∀ a o, H a = some o → H' a = some o
theorem Ex.refl (H : Hp) : Ex H H := fun _ _ h => h
theorem Ex.trans {H H1 H2 : Hp} (a : Ex H H1) (b : Ex H1 H2) : Ex H H2 := fun x o h => b x o (a x o h)
theorem Ex.new {H : Hp} {p : Addr} {o : HO} (h : H p = none) : Ex H (upd H p o) := fun a u e => by
  rw [upd_ne (ne_of_none e h)]; exact e
theorem Ex.fresh {H H' : Hp} {p : Addr} (e : Ex H H') (h : H' p = none) : H p = none := by
  cases h1 : H p with
  | none => rfl
  | some o => rw [e p o h1] at h; cases h
theorem Ex.upd2 {F H : Hp} {p : Addr} {o : HO} (e : Ex F H) (h : F p = none) : Ex F (upd H p o) := fun a u ha => by
  rw [upd_ne (ne_of_none ha h)]; exact e a u ha
theorem Ex.both {F H : Hp} {p : Addr} {o : HO} (e : Ex F H) : Ex (upd F p o) (upd H p o) := fun a u ha => by
  by_cases h : a = p
  · subst h; rw [upd_same] at ha ⊢; exact ha
  · rw [upd_ne h] at ha ⊢; exact e a u ha
theorem Ex.in1 {F H : Hp} {p : Addr} {o : HO} (e : Ex F H) (h : H p = some o) : Ex (upd F p o) H := fun a u ha => by
  by_cases q : a = p
  · subst q; rw [upd_same] at ha; cases ha; exact h
  · rw [upd_ne q] at ha; exact e a u ha
theorem Ex.rd {H H' : Hp} {a : Addr} {u : HO} (e : Ex H H') (h : Rd H a u) : Rd H' a u := by
  rcases h with h | ⟨o, h⟩
  · exact .inl (e a _ h)
  · exact .inr ⟨o, e a _ h⟩
theorem Ex.sql {K : PySem.W.Frag} {H H' : Hp} {a : Addr} {xs : List V} (e : Ex H H') (h : SqL K H a xs) : SqL K H' a xs := by
  rcases h with h | h
  · exact .inl (e.rd h)
  · exact .inr h
theorem Ex.sqt {K : PySem.W.Frag} {H H' : Hp} {a : Addr} {xs : List V} (e : Ex H H') (h : SqT K H a xs) : SqT K H' a xs := by
  rcases h with h | h
  · exact .inl (e.rd h)
  · exact .inr h

/-- what is fixed through a law: the program, the world, the written part -/
structure Bs where
  P : Program
  w : World
  K : PySem.W.Frag
/-- a dict whose keys are tuples (of numbers, texts, None, tuples): the key, the key's object, the value -/
def hoN (B : Bs) (a : Addr) (es : List (NestedKey × Addr × V)) : HO := .ext fun h => es.length ≤ sizeLine ∧ (a == sysModules) = false ∧ (∀ e ∈ es, e.1.depth ≤ 8) ∧
  ∃ xs : List (NestedKey × Addr × Value), Paired (fun (p : NestedKey × Addr × V) (q : NestedKey × Addr × Value) => p.1 = q.1 ∧ p.2.1 = q.2.1 ∧ RelV p.2.2 q.2.2) es xs ∧
  ∃ o es' ep, h.get? a = some o ∧ o.ExactDict ∧ o.data = .dict es' ep ∧ es'.toList = xs.map (entryOfKey (nestedKind B.P B.w)) ∧ (xs.map (·.1)).Nodup
mutual
/-- the tree as a key -/
def T.nk : T → Option NestedKey
  | .non => some .none
  | .bl b => some (.num (if b then 1 else 0))
  | .int i => some (.num i)
  | .str x => some (.text x)
  | .tup ts => (T.nks ts).map .tup
  | _ => none
def T.nks : List T → Option (List NestedKey)
  | [] => some []
  | t :: ts => match T.nk t, T.nks ts with
    | some d, some ds => some (d :: ds)
    | _, _ => none
end
/-! ### a value bears a tree, in the frozen part F of the heap -/
mutual
def DV (B : Bs) (F : Hp) : V → T → Prop
  | v, .non => v = .non
  | v, .bl b => v = .bl b
  | v, .int i => v = .int i
  | v, .str x => v = .str x
  | v, .lst ts => ∃ a xs, v = .ref a ∧ F a = some (.lst xs) ∧ DVs B F xs ts
  | v, .rl ts => ∃ a xs, v = .ref a ∧ SqL B.K F a xs ∧ DVs B F xs ts
  | v, .tup ts => ∃ a xs, v = .ref a ∧ SqT B.K F a xs ∧ DVs B F xs ts
  | v, .obj C ns ts => ∃ a dx fs, v = .ref a ∧ F a = some (.ins C dx fs) ∧ fs.map (·.1) = ns ∧ DVs B F (fs.map (·.2)) ts
  | v, .raw u => v = u
  | v, .fn q => ∃ a, v = .ref a ∧ F a = some (NdefX.FnO a q) ∧ F q.c = some (LamX.CodeO q.c q.qual)
  | v, .dN ks vs => ∃ a es, v = .ref a ∧ F a = some (hoN B a es) ∧ T.nks ks = some (es.map (·.1)) ∧ DVs B F (es.map fun e => .ref e.2.1) ks ∧ DVs B F (es.map fun e => e.2.2) vs
  | v, .dK ks vs => ∃ a kvs, v = .ref a ∧ F a = some (.dK kvs) ∧ kvs.map (·.1) = ks ∧ DVs B F (kvs.map (·.2)) vs
def DVs (B : Bs) (F : Hp) : List V → List T → Prop
  | vs, [] => vs = []
  | vs, t :: ts => ∃ v r, vs = v :: r ∧ DV B F v t ∧ DVs B F r ts
end
section
variable {B : Bs} {F F' H : Hp}
mutual
theorem DV.mono (e : Ex F F') : ∀ (t : T) (v : V), DV B F v t → DV B F' v t
  | .non, _, h => by simp only [DV] at h ⊢; exact h
  | .bl _, _, h => by simp only [DV] at h ⊢; exact h
  | .int _, _, h => by simp only [DV] at h ⊢; exact h
  | .str _, _, h => by simp only [DV] at h ⊢; exact h
  | .raw _, _, h => by simp only [DV] at h ⊢; exact h
  | .fn q, _, h => by
    simp only [DV] at h ⊢
    obtain ⟨a, e1, h1, h2⟩ := h
    exact ⟨a, e1, e _ _ h1, e _ _ h2⟩
  | .lst ts, _, h => by
    simp only [DV] at h ⊢
    obtain ⟨a, xs, e1, h1, h2⟩ := h
    exact ⟨a, xs, e1, e _ _ h1, DVs.mono e ts xs h2⟩
  | .rl ts, _, h => by
    simp only [DV] at h ⊢
    obtain ⟨a, xs, e1, h1, h2⟩ := h
    exact ⟨a, xs, e1, e.sql h1, DVs.mono e ts xs h2⟩
  | .tup ts, _, h => by
    simp only [DV] at h ⊢
    obtain ⟨a, xs, e1, h1, h2⟩ := h
    exact ⟨a, xs, e1, e.sqt h1, DVs.mono e ts xs h2⟩
  | .obj C ns ts, _, h => by
    simp only [DV] at h ⊢
    obtain ⟨a, dx, fs, e1, h1, h2, h3⟩ := h
    exact ⟨a, dx, fs, e1, e _ _ h1, h2, DVs.mono e ts _ h3⟩
  | .dN ks vs, _, h => by
    simp only [DV] at h ⊢
    obtain ⟨a, es, e1, h1, h2, h3, h4⟩ := h
    exact ⟨a, es, e1, e _ _ h1, h2, DVs.mono e ks _ h3, DVs.mono e vs _ h4⟩
  | .dK ks vs, _, h => by
    simp only [DV] at h ⊢
    obtain ⟨a, kvs, e1, h1, h2, h3⟩ := h
    exact ⟨a, kvs, e1, e _ _ h1, h2, DVs.mono e vs _ h3⟩
theorem DVs.mono (e : Ex F F') : ∀ (ts : List T) (vs : List V), DVs B F vs ts → DVs B F' vs ts
  | [], _, h => by simp only [DVs] at h ⊢; exact h
  | t :: ts, _, h => by
    simp only [DVs] at h ⊢
    obtain ⟨v, r, e1, h1, h2⟩ := h
    exact ⟨v, r, e1, DV.mono e t v h1, DVs.mono e ts r h2⟩
end
theorem DVs.nil : DVs B F [] [] := by simp only [DVs]
theorem DVs.cons {v : V} {t : T} {vs : List V} {ts : List T} (h : DV B F v t) (hs : DVs B F vs ts) : DVs B F (v :: vs) (t :: ts) := by
  simp only [DVs]; exact ⟨v, vs, rfl, h, hs⟩
theorem DVs.uncons {v : V} {t : T} {vs : List V} {ts : List T} (h : DVs B F (v :: vs) (t :: ts)) : DV B F v t ∧ DVs B F vs ts := by
  simp only [DVs] at h
  obtain ⟨_, _, e, h1, h2⟩ := h
  cases e; exact ⟨h1, h2⟩
theorem DVs.length : ∀ {ts : List T} {vs : List V}, DVs B F vs ts → vs.length = ts.length
  | [], _, h => by simp only [DVs] at h; subst h; rfl
  | t :: ts, _, h => by
    simp only [DVs] at h
    obtain ⟨v, r, e, _, h2⟩ := h
    rw [e, List.length_cons, List.length_cons, DVs.length h2]
theorem DVs.get : ∀ {ts : List T} {vs : List V} {i : Nat} {t : T}, DVs B F vs ts → ts[i]? = some t → ∃ v, vs[i]? = some v ∧ DV B F v t
  | [], _, _, _, _, e => by simp at e
  | u :: ts, _, 0, t, h, e => by
    simp only [DVs] at h
    obtain ⟨v, r, rfl, h1, _⟩ := h
    simp at e; subst e; exact ⟨v, rfl, h1⟩
  | u :: ts, _, i + 1, t, h, e => by
    simp only [DVs] at h
    obtain ⟨v, r, rfl, _, h2⟩ := h
    obtain ⟨w, e1, e2⟩ := DVs.get (i := i) h2 (by simpa using e)
    exact ⟨w, by simpa using e1, e2⟩
theorem DVs.get' : ∀ {ts : List T} {vs : List V} {i : Nat} {v : V}, DVs B F vs ts → vs[i]? = some v → ∃ t, ts[i]? = some t ∧ DV B F v t
  | [], _, _, _, h, e => by simp only [DVs] at h; subst h; simp at e
  | u :: ts, _, 0, v, h, e => by
    simp only [DVs] at h
    obtain ⟨w, r, rfl, h1, _⟩ := h
    simp at e; subst e; exact ⟨u, rfl, h1⟩
  | u :: ts, _, i + 1, v, h, e => by
    simp only [DVs] at h
    obtain ⟨w, r, rfl, _, h2⟩ := h
    obtain ⟨t, e1, e2⟩ := DVs.get' (i := i) h2 (by simpa using e)
    exact ⟨t, by simpa using e1, e2⟩
theorem DVs.append : ∀ {ts : List T} {vs : List V} {ts' : List T} {vs' : List V}, DVs B F vs ts → DVs B F vs' ts' → DVs B F (vs ++ vs') (ts ++ ts')
  | [], _, _, _, h, h' => by simp only [DVs] at h; subst h; exact h'
  | t :: ts, _, _, _, h, h' => by
    simp only [DVs] at h
    obtain ⟨v, r, rfl, h1, h2⟩ := h
    exact .cons h1 (DVs.append h2 h')
theorem DVs.snoc {ts : List T} {vs : List V} {t : T} {v : V} (h : DVs B F vs ts) (h' : DV B F v t) : DVs B F (vs ++ [v]) (ts ++ [t]) := h.append (.cons h' .nil)
theorem DVs.take : ∀ {ts : List T} {vs : List V} (n : Nat), DVs B F vs ts → DVs B F (vs.take n) (ts.take n)
  | _, _, 0, _ => by simp only [List.take_zero]; exact .nil
  | [], _, n + 1, h => by simp only [DVs] at h; subst h; exact .nil
  | t :: ts, _, n + 1, h => by
    simp only [DVs] at h
    obtain ⟨v, r, rfl, h1, h2⟩ := h
    exact .cons h1 (DVs.take n h2)
theorem DVs.drop : ∀ {ts : List T} {vs : List V} (n : Nat), DVs B F vs ts → DVs B F (vs.drop n) (ts.drop n)
  | _, _, 0, h => h
  | [], _, n + 1, h => by simp only [DVs] at h; subst h; exact .nil
  | t :: ts, _, n + 1, h => by
    simp only [DVs] at h
    obtain ⟨v, r, rfl, h1, h2⟩ := h
    exact DVs.drop n h2
theorem DVs.set : ∀ {ts : List T} {vs : List V} (n : Nat) {t : T} {v : V}, DVs B F vs ts → DV B F v t → DVs B F (vs.set n v) (ts.set n t)
  | [], _, n, _, _, h, _ => by simp only [DVs] at h; subst h; exact .nil
  | t :: ts, _, 0, _, _, h, h' => by
    simp only [DVs] at h
    obtain ⟨v, r, rfl, h1, h2⟩ := h
    exact .cons h' h2
  | t :: ts, _, n + 1, _, _, h, h' => by
    simp only [DVs] at h
    obtain ⟨v, r, rfl, h1, h2⟩ := h
    exact .cons h1 (DVs.set n h2 h')
theorem DVs.reverse {ts : List T} {vs : List V} (h : DVs B F vs ts) : DVs B F vs.reverse ts.reverse := by
  induction ts generalizing vs with
  | nil => simp only [DVs] at h; subst h; exact .nil
  | cons t ts ih =>
    simp only [DVs] at h
    obtain ⟨v, r, rfl, h1, h2⟩ := h
    rw [List.reverse_cons, List.reverse_cons]
    exact (ih h2).snoc h1
theorem DV.lst_ {a : Addr} {xs : List V} {ts : List T} (h : F a = some (.lst xs)) (hs : DVs B F xs ts) : DV B F (.ref a) (.lst ts) := by simp only [DV]; exact ⟨a, xs, rfl, h, hs⟩
theorem DV.tup_ {a : Addr} {xs : List V} {ts : List T} (h : SqT B.K F a xs) (hs : DVs B F xs ts) : DV B F (.ref a) (.tup ts) := by simp only [DV]; exact ⟨a, xs, rfl, h, hs⟩
end

/-! ### plain data: without instances -/
mutual
def T.py : T → Option PyData
  | .non => some .none
  | .bl b => some (.bool b)
  | .int i => some (.int i)
  | .str x => some (.str x)
  | .lst ts => (T.pys ts).map .list
  | .tup ts => (T.pys ts).map .tuple
  | .obj _ _ _ => none
  | .dN _ _ => none
  | .dK _ _ => none
  | .raw _ => none
  | .fn _ => none
  | .rl ts => (T.pys ts).map .list
def T.pys : List T → Option (List PyData)
  | [] => some []
  | t :: ts => match T.py t, T.pys ts with
    | some d, some ds => some (d :: ds)
    | _, _ => none
end
section
variable {B : Bs} {F : Hp}
mutual
theorem DV.dp : ∀ (t : T) (v : V) (d : PyData), DV B F v t → t.py = some d → Dp B.K F v d
  | .non, _, _, h, e => by simp only [DV] at h; subst h; simp only [T.py] at e; cases e; exact .non
  | .bl b, _, _, h, e => by simp only [DV] at h; subst h; simp only [T.py] at e; cases e; exact .bl b
  | .int i, _, _, h, e => by simp only [DV] at h; subst h; simp only [T.py] at e; cases e; exact .int i
  | .str x, _, _, h, e => by simp only [DV] at h; subst h; simp only [T.py] at e; cases e; exact .str x
  | .raw _, _, _, _, e => by simp only [T.py] at e; cases e
  | .fn _, _, _, _, e => by simp only [T.py] at e; cases e
  | .obj _ _ _, _, _, _, e => by simp only [T.py] at e; cases e
  | .dN _ _, _, _, _, e => by simp only [T.py] at e; cases e
  | .dK _ _, _, _, _, e => by simp only [T.py] at e; cases e
  | .lst ts, _, _, h, e => by
    simp only [DV] at h
    obtain ⟨a, xs, rfl, h1, h2⟩ := h
    simp only [T.py, Option.map_eq_some_iff] at e
    obtain ⟨ds, e1, rfl⟩ := e
    exact .lst (SqL.of h1) (DVs.dp ts xs ds h2 e1)
  | .rl ts, _, _, h, e => by
    simp only [DV] at h
    obtain ⟨a, xs, rfl, h1, h2⟩ := h
    simp only [T.py, Option.map_eq_some_iff] at e
    obtain ⟨ds, e1, rfl⟩ := e
    exact .lst h1 (DVs.dp ts xs ds h2 e1)
  | .tup ts, _, _, h, e => by
    simp only [DV] at h
    obtain ⟨a, xs, rfl, h1, h2⟩ := h
    simp only [T.py, Option.map_eq_some_iff] at e
    obtain ⟨ds, e1, rfl⟩ := e
    exact .tup h1 (DVs.dp ts xs ds h2 e1)
theorem DVs.dp : ∀ (ts : List T) (vs : List V) (ds : List PyData), DVs B F vs ts → T.pys ts = some ds → DpAll B.K F vs ds
  | [], _, _, h, e => by simp only [DVs] at h; subst h; simp only [T.pys] at e; cases e; exact .nil
  | t :: ts, _, _, h, e => by
    simp only [DVs] at h
    obtain ⟨v, r, rfl, h1, h2⟩ := h
    simp only [T.pys] at e
    split at e
    · rename_i d ds e1 e2
      cases e
      exact .cons (DV.dp t v d h1 e1) (DVs.dp ts r ds h2 e2)
    · cases e
end
end
mutual
theorem Dp.mono {K : PySem.W.Frag} {F F' : Hp} (e : Ex F F') : ∀ (d : PyData) (v : V), Dp K F v d → Dp K F' v d
  | .none, _, h => by cases h; exact .non
  | .bool _, _, h => by cases h; exact .bl _
  | .int _, _, h => by cases h; exact .int _
  | .str _, _, h => by cases h; exact .str _
  | .list ds, _, h => by
    cases h with
    | lst h1 h2 => exact .lst (e.sql h1) (DpAll.mono e ds _ h2)
  | .tuple ds, _, h => by
    cases h with
    | tup h1 h2 => exact .tup (e.sqt h1) (DpAll.mono e ds _ h2)
  | .dict _, _, h => by cases h
theorem DpAll.mono {K : PySem.W.Frag} {F F' : Hp} (e : Ex F F') : ∀ (ds : List PyData) (vs : List V), DpAll K F vs ds → DpAll K F' vs ds
  | [], _, h => by cases h; exact .nil
  | d :: ds, _, h => by
    cases h with
    | cons h1 h2 => exact .cons (Dp.mono e d _ h1) (DpAll.mono e ds _ h2)
end

end DL

namespace DL
open PySem L2

/-! ### what is owned: a list, a dict, that may change; its items are frozen -/
inductive OW where
  | lst (ts : List T)
  | dK (ks : List Key) (vs : List T)
  | dN (ks vs : List T)
  | ins (C dx : Addr) (ns : List Str) (ts : List T)
  | lk (ob : Obj) (es : List (NestedKey × Addr × V)) (ks vs : List T)
  | txs (ks : List Str)
  | ex (u : HO)
/-- an item of an owned list: a list that is owned with it, or data -/
inductive NI where
  | o (b : Addr) (ts : List T) | d (t : T) | pr (p b1 : Addr) (t1 : List T) (b2 : Addr) (t2 : List T)
inductive SV where
  | no | d (t : T) | own (a : Addr) (o : OW) | arg (a : Addr) (o : OW) | ptr (a : Addr)
  | lv (xs : List V) (ts : List T) | tv (xs : List V) (ts : List T) | zv (b : Addr) (xs : List V) (ts : List T) (ys : List V) (us : List T)
  | nst (a : Addr) (ns : List NI)
inductive Loc where
  | slot (i : Nat) | top | tmp (n : Nat)
structure Cn where
  B : Bs
  F0 : Hp
  H0 : Hp
  A : Option Addr
  /-- the tables of code objects that may grow -/
  Ts : List Addr
  ts : ∀ t ∈ Ts, ∃ o, H0 t = some o

def OwAt (B : Bs) (F H : Hp) (a : Addr) : OW → Prop
  | .lst ts => ∃ xs, H a = some (.lst xs) ∧ DVs B F xs ts
  | .dK ks vs => ∃ kvs, H a = some (.dK kvs) ∧ kvs.map (·.1) = ks ∧ DVs B F (kvs.map (·.2)) vs
  | .dN ks vs => ∃ es, H a = some (hoN B a es) ∧ T.nks ks = some (es.map (·.1)) ∧ DVs B F (es.map fun e => .ref e.2.1) ks ∧ DVs B F (es.map fun e => e.2.2) vs
  | .ins C dx ns ts => ∃ fs, H a = some (.ins C dx fs) ∧ fs.map (·.1) = ns ∧ DVs B F (fs.map (·.2)) ts
  | .lk ob es ks vs => H a = some (.frz ob (hoN B a es)) ∧ T.nks ks = some (es.map (·.1)) ∧ DVs B F (es.map fun e => .ref e.2.1) ks ∧ DVs B F (es.map fun e => e.2.2) vs
  | .txs ks => H a = some (TxtO B.w a ks)
  | .ex u => H a = some u ∧ (∀ xs, u ≠ .tup xs) ∧ ∀ ob xs, u ≠ .frz ob (.tup xs)
theorem OwAt.mono {B : Bs} {F F' H H' : Hp} {a : Addr} {o : OW} (e : Ex F F') (h : H' a = H a) (q : OwAt B F H a o) : OwAt B F' H' a o := by
  cases o with
  | lst ts => obtain ⟨xs, h1, h2⟩ := q; exact ⟨xs, by rw [h]; exact h1, DVs.mono e _ _ h2⟩
  | dK ks vs => obtain ⟨xs, h1, h0, h2⟩ := q; exact ⟨xs, by rw [h]; exact h1, h0, DVs.mono e _ _ h2⟩
  | dN ks vs => obtain ⟨xs, h1, h0, h2, h3⟩ := q; exact ⟨xs, by rw [h]; exact h1, h0, DVs.mono e _ _ h2, DVs.mono e _ _ h3⟩
  | ins C dx ns ts => obtain ⟨xs, h1, h0, h2⟩ := q; exact ⟨xs, by rw [h]; exact h1, h0, DVs.mono e _ _ h2⟩
  | lk ob es ks vs => obtain ⟨h1, h0, h2, h3⟩ := q; exact ⟨by rw [h]; exact h1, h0, DVs.mono e _ _ h2, DVs.mono e _ _ h3⟩
  | txs ks => exact h.trans q
  | ex u => exact ⟨h.trans q.1, q.2⟩
theorem OwAt.some {B : Bs} {F H : Hp} {a : Addr} {o : OW} (q : OwAt B F H a o) : ∃ u, H a = some u := by
  cases o with
  | lst ts => obtain ⟨xs, h1, h2⟩ := q; exact ⟨_, h1⟩
  | dK ks vs => obtain ⟨xs, h1, _⟩ := q; exact ⟨_, h1⟩
  | dN ks vs => obtain ⟨xs, h1, _⟩ := q; exact ⟨_, h1⟩
  | ins C dx ns ts => obtain ⟨xs, h1, _⟩ := q; exact ⟨_, h1⟩
  | lk ob es ks vs => exact ⟨_, q.1⟩
  | txs ks => exact ⟨_, q⟩
  | ex u => exact ⟨_, q.1⟩

def NiAt (B : Bs) (F H : Hp) : V → NI → Prop
  | v, .o b ts => v = .ref b ∧ ∃ xs, H b = some (.lst xs) ∧ DVs B F xs ts
  | v, .d t => DV B F v t
  | v, .pr p b1 t1 b2 t2 => v = .ref p ∧ F p = some (.tup [.ref b1, .ref b2]) ∧ (∃ xs, H b1 = some (.lst xs) ∧ DVs B F xs t1) ∧ ∃ xs, H b2 = some (.lst xs) ∧ DVs B F xs t2
def NisAt (B : Bs) (F H : Hp) : List V → List NI → Prop
  | [], [] => True
  | v :: vs, n :: ns => NiAt B F H v n ∧ NisAt B F H vs ns
  | _, _ => False
def NI.adr : NI → List Addr
  | .o b _ => [b]
  | .d _ => []
  | .pr _ b1 _ b2 _ => [b1, b2]
def adrs (ns : List NI) : List Addr := (ns.map NI.adr).flatten
/-- a list that is owned with lists in it -/
structure NstAt (c : Cn) (F : Hp) (g : Addr → Option Loc) (H : Hp) (l : Loc) (a : Addr) (ns : List NI) : Prop where
  ls : ∃ xs, H a = some (.lst xs) ∧ NisAt c.B F H xs ns
  ga : g a = some l
  h0 : c.H0 a = none
  gi : ∀ b ∈ adrs ns, g b = some l ∧ c.H0 b = none ∧ b ≠ a
  nd : (adrs ns).Nodup
theorem NiAt.mono {B : Bs} {F F' H H' : Hp} {v : V} {n : NI} (e : Ex F F') (h : ∀ b ∈ n.adr, H' b = H b) (q : NiAt B F H v n) : NiAt B F' H' v n := by
  cases n with
  | o b ts => obtain ⟨e1, xs, h1, h2⟩ := q; exact ⟨e1, xs, by rw [h b (by simp [NI.adr])]; exact h1, DVs.mono e _ _ h2⟩
  | d t => exact DV.mono e t v q
  | pr p b1 t1 b2 t2 =>
    obtain ⟨e1, e2, ⟨xs, h1, h2⟩, ys, h3, h4⟩ := q
    exact ⟨e1, e _ _ e2, ⟨xs, by rw [h b1 (by simp [NI.adr])]; exact h1, DVs.mono e _ _ h2⟩, ys, by rw [h b2 (by simp [NI.adr])]; exact h3, DVs.mono e _ _ h4⟩
theorem NisAt.mono {B : Bs} {F F' H H' : Hp} (e : Ex F F') : ∀ {vs : List V} {ns : List NI}, (∀ b ∈ adrs ns, H' b = H b) → NisAt B F H vs ns → NisAt B F' H' vs ns
  | [], [], _, _ => True.intro
  | [], _ :: _, _, q => q.elim
  | _ :: _, [], _, q => q.elim
  | v :: vs, n :: ns, h, q => ⟨q.1.mono e fun b hb => h b (by unfold adrs; rw [List.map_cons, List.flatten_cons]; exact List.mem_append_left _ hb), q.2.mono e fun b hb => h b (by unfold adrs; rw [List.map_cons, List.flatten_cons]; exact List.mem_append_right _ hb)⟩
theorem NstAt.mono {c : Cn} {F F' : Hp} {g g' : Addr → Option Loc} {H H' : Hp} {l : Loc} {a : Addr} {ns : List NI} (e : Ex F F') (hg : ∀ b, g b = some l → g' b = some l) (hh : ∀ b, g b = some l → H' b = H b) (q : NstAt c F g H l a ns) : NstAt c F' g' H' l a ns := by
  obtain ⟨xs, h1, h2⟩ := q.ls
  exact ⟨⟨xs, by rw [hh a q.ga]; exact h1, h2.mono e fun b hb => hh b (q.gi b hb).1⟩, hg a q.ga, q.h0, fun b hb => ⟨hg b (q.gi b hb).1, (q.gi b hb).2⟩, q.nd⟩
def SlotOk (c : Cn) (F : Hp) (g : Addr → Option Loc) (H : Hp) (i : Nat) (x : Option V) : SV → Prop
  | .no => True
  | .d t => ∃ v, x = some v ∧ DV c.B F v t
  | .own a o => x = some (.ref a) ∧ g a = some (.slot i) ∧ c.H0 a = none ∧ OwAt c.B F H a o
  | .arg a o => x = some (.ref a) ∧ g a = some (.slot i) ∧ c.A = some a ∧ OwAt c.B F H a o
  | .ptr a => x = some (.ref a)
  | .nst a ns => x = some (.ref a) ∧ NstAt c F g H (.slot i) a ns
  | .lv _ _ => False
  | .tv _ _ => False
  | .zv _ _ _ _ _ => False
def TempOk (c : Cn) (F : Hp) (g : Addr → Option Loc) (H : Hp) (n : Nat) (p : V × SV) : Prop := match p.2 with
  | .d t => DV c.B F p.1 t
  | .ptr a => p.1 = .ref a
  | .lv xs ts => ∃ a, p.1 = .ref a ∧ SqL c.B.K F a xs ∧ DVs c.B F xs ts
  | .tv xs ts => ∃ a, p.1 = .ref a ∧ SqT c.B.K F a xs ∧ DVs c.B F xs ts
  | .zv b xs ts ys us => ∃ a, p.1 = .ref a ∧ (SqL c.B.K F a xs ∧ DVs c.B F xs ts) ∧ SqL c.B.K F b ys ∧ DVs c.B F ys us
  | .no => True
  | .nst a ns => p.1 = .ref a ∧ NstAt c F g H (.tmp n) a ns
  | .own a o => p.1 = .ref a ∧ g a = some (.tmp n) ∧ c.H0 a = none ∧ OwAt c.B F H a o
  | .arg _ _ => False
def TopOk (c : Cn) (F : Hp) (g : Addr → Option Loc) (H : Hp) (v : V) : SV → Prop
  | .d t => DV c.B F v t
  | .nst a ns => v = .ref a ∧ NstAt c F g H .top a ns
  | .own a o => v = .ref a ∧ g a = some .top ∧ c.H0 a = none ∧ OwAt c.B F H a o
  | .ptr a => v = .ref a
  | .lv _ _ => False
  | .tv _ _ => False
  | .zv _ _ _ _ _ => False
  | .no => True
  | .arg _ _ => False
/-- where a def stands within a def: its whole name -/
def inAt (l c : Nat) (x : Str) : List Stmt → Option Str
  | [] => none
  | .FunctionDef y _ _ _ _ _ _ _ _ pos :: r => if pos.line = l ∧ pos.col = c then some (x ++ ".<locals>." ++ y) else inAt l c x r
  | _ :: r => inAt l c x r
def nameIn (l c : Nat) : List Stmt → Str
  | [] => ""
  | .FunctionDef x _ b _ _ _ _ _ _ _ :: r => match inAt l c x b with
    | some z => z
    | none => nameIn l c r
  | _ :: r => nameIn l c r
def nameAt (P : Program) (l c : Nat) : Str := nameIn l c P.main.body
def Tb (B : Bs) (F H : Hp) (a : Addr) : Prop := ∃ ps : Array Value, H a = some (.tbl ps) ∧ TriplesOk ps.toList ∧ ∀ (pos : Pos) (cv : Value), codeAmong pos ps.toList = some cv → ∃ c, cv = .ref c ∧ F c = some (LamX.CodeO c (nameAt B.P pos.line pos.col))
theorem Tb.mono {B : Bs} {F F' H H' : Hp} {a : Addr} (t : Tb B F H a) (e : Ex F F') (h : H' a = H a) : Tb B F' H' a := by
  obtain ⟨ps, h1, h2, h3⟩ := t
  refine ⟨ps, h.trans h1, h2, fun pos cv hc => ?_⟩
  obtain ⟨c, e1, e2⟩ := h3 pos cv hc
  exact ⟨c, e1, e _ _ e2⟩
structure StF (c : Cn) (F : Hp) (g : Addr → Option Loc) (σ : L2.St) (H : Hp) (δ : List SV) (ρ : List (V × SV)) : Prop where
  fh : Ex F H
  f0 : Ex c.F0 F
  fn : ∀ a o, c.H0 a = some o → F a = c.F0 a
  h0 : ∀ a o, c.H0 a = some o → c.A ≠ some a → a ∉ c.Ts → H a = some o
  len : σ.length = δ.length
  sl : ∀ i s, δ[i]? = some s → SlotOk c F g H i (σ[i]?.join) s
  tm : ∀ n p, ρ[n]? = some p → TempOk c F g H n p
  gn : ∀ a l, g a = some l → F a = none ∧ ∃ o, H a = some o
  an : ∀ a, c.A = some a → F a = none ∧ (∃ o, H a = some o) ∧ ∃ o, c.H0 a = some o
  tb : ∀ t ∈ c.Ts, Tb c.B F H t ∧ F t = none ∧ g t = none
def St (c : Cn) (σ : L2.St) (H : Hp) (δ : List SV) (ρ : List (V × SV)) : Prop := ∃ F g, StF c F g σ H δ ρ
def St1 (c : Cn) (σ : L2.St) (H : Hp) (δ : List SV) (ρ : List (V × SV)) (v : V) (r : SV) : Prop := ∃ F g, StF c F g σ H δ ρ ∧ TopOk c F g H v r

theorem DV.any {B : Bs} {F F' : Hp} {t : T} {v : V} (h : DV B F v t) (e : Ex F F') : DV B F' v t := DV.mono e t v h

section
variable {c : Cn} {F F' : Hp} {g g' : Addr → Option Loc} {σ : L2.St} {H H' : Hp} {δ δ' : List SV} {ρ : List (V × SV)} {i : Nat} {t : T} {v : V}
theorem SlotOk.mono {x : Option V} {s : SV} (e : Ex F F') (hg : ∀ a, g a = some (.slot i) → g' a = some (.slot i)) (hh : ∀ a, g a = some (.slot i) → H' a = H a) (q : SlotOk c F g H i x s) : SlotOk c F' g' H' i x s := by
  cases s with
  | no => trivial
  | d t => obtain ⟨v, e1, h⟩ := q; exact ⟨v, e1, h.any e⟩
  | own a o => obtain ⟨e1, h1, h2, h3⟩ := q; exact ⟨e1, hg a h1, h2, h3.mono e (hh a h1)⟩
  | arg a o => obtain ⟨e1, h1, h2, h3⟩ := q; exact ⟨e1, hg a h1, h2, h3.mono e (hh a h1)⟩
  | ptr a => exact q
  | nst a ns => exact ⟨q.1, q.2.mono e hg hh⟩
  | lv _ _ => exact q
  | tv _ _ => exact q
  | zv _ _ _ _ _ => exact q
theorem TempOk.mono {p : V × SV} {n : Nat} (e : Ex F F') (hg : ∀ a, g a = some (.tmp n) → g' a = some (.tmp n)) (hh : ∀ a, g a = some (.tmp n) → H' a = H a) (q : TempOk c F g H n p) : TempOk c F' g' H' n p := by
  obtain ⟨v, s⟩ := p
  cases s with
  | d t => exact DV.any (B := c.B) (v := v) (t := t) q e
  | ptr a => exact q
  | no => exact q
  | own a o => obtain ⟨e1, h1, h2, h3⟩ := q; exact ⟨e1, hg a h1, h2, h3.mono e (hh a h1)⟩
  | arg a o => exact q
  | nst a ns => exact ⟨q.1, q.2.mono e hg hh⟩
  | lv xs ts => obtain ⟨a, e1, h1, h2⟩ := q; exact ⟨a, e1, e.sql h1, DVs.mono e _ _ h2⟩
  | tv xs ts => obtain ⟨a, e1, h1, h2⟩ := q; exact ⟨a, e1, e.sqt h1, DVs.mono e _ _ h2⟩
  | zv b xs ts ys us => obtain ⟨a, e1, ⟨h1, h2⟩, h3, h4⟩ := q; exact ⟨a, e1, ⟨e.sql h1, DVs.mono e _ _ h2⟩, e.sql h3, DVs.mono e _ _ h4⟩

/-! ### reading the state -/
theorem StF.data (S : StF c F g σ H δ ρ) (h : δ[i]? = some (.d t)) : ∃ v, σ[i]? = some (some v) ∧ DV c.B F v t := by
  obtain ⟨v, e, q⟩ := S.sl i _ h
  refine ⟨v, ?_, q⟩
  cases z : σ[i]? with
  | none => rw [z] at e; cases e
  | some y => rw [z] at e; simp at e; rw [e]
theorem StF.sz (S : StF c F g σ H δ ρ) (h : δ[i]? = some s) : i < σ.length := by
  rw [S.len]; exact (List.getElem?_eq_some_iff.mp h).1

/-! ### growing: new frozen objects, temporaries -/
/-- what stood at the beginning stands, changed or not -/
theorem StF.here (S : StF c F g σ H δ ρ) {a : Addr} {o : HO} (e : c.H0 a = some o) : ∃ u, H a = some u := by
  by_cases hA : c.A = some a
  · exact (S.an a hA).2.1
  · by_cases hT : a ∈ c.Ts
    · obtain ⟨ps, h, _⟩ := (S.tb a hT).1
      exact ⟨_, h⟩
    · exact ⟨o, S.h0 a o e hA hT⟩
/-- the heap grew by objects that nobody knew; F grew by some of these -/
theorem StF.grow (S : StF c F g σ H δ ρ) (eh : Ex H H') (ef : Ex F F') (fh : Ex F' H') (fn : ∀ a o, H a = some o → F' a = F a) : StF c F' g σ H' δ ρ where
  fh := fh
  f0 := S.f0.trans ef
  fn := fun a o e => by
    obtain ⟨u, hu⟩ := S.here e
    rw [fn a u hu]; exact S.fn a o e
  h0 := fun a o e hA hT => eh a o (S.h0 a o e hA hT)
  len := S.len
  sl := fun i s e => (S.sl i s e).mono ef (fun _ h => h) (fun a h => by
    obtain ⟨_, u, hu⟩ := S.gn a _ h
    rw [hu, eh a u hu])
  tm := fun n p hp => (S.tm n p hp).mono ef (fun _ h => h) (fun a h => by
    obtain ⟨_, u, hu⟩ := S.gn a _ h
    rw [hu, eh a u hu])
  gn := fun a l e => by
    obtain ⟨h1, u, hu⟩ := S.gn a l e
    exact ⟨by rw [fn a u hu]; exact h1, u, eh a u hu⟩
  an := fun a e => by
    obtain ⟨h1, ⟨u, hu⟩, h2⟩ := S.an a e
    exact ⟨by rw [fn a u hu]; exact h1, ⟨u, eh a u hu⟩, h2⟩
  tb := fun t ht => by
    obtain ⟨t1, t2, t3⟩ := S.tb t ht
    obtain ⟨ps, h, _⟩ := id t1
    exact ⟨t1.mono ef (by rw [h]; exact eh t _ h), by rw [fn t _ h]; exact t2, t3⟩
/-- an owned thing changes: the tables stay -/
theorem StF.tbU {a : Addr} {l : Loc} {u : HO} (S : StF c F g σ H δ ρ) (hg : g a = some l) : ∀ t ∈ c.Ts, Tb c.B F (upd H a u) t ∧ F t = none ∧ g t = none := fun t ht => by
  obtain ⟨t1, t2, t3⟩ := S.tb t ht
  have n : t ≠ a := fun y => by rw [y, hg] at t3; cases t3
  exact ⟨t1.mono (Ex.refl F) (upd_ne n), t2, t3⟩
/-- an owned thing is owned elsewise -/
theorem StF.tbG (S : StF c F g σ H δ ρ) (h : ∀ b, (∃ l, g b = some l) ∨ g' b = g b ∨ g' b = none) : ∀ t ∈ c.Ts, Tb c.B F H t ∧ F t = none ∧ g' t = none := fun t ht => by
  obtain ⟨t1, t2, t3⟩ := S.tb t ht
  refine ⟨t1, t2, ?_⟩
  rcases h t with ⟨l, h⟩ | h | h
  · rw [t3] at h; cases h
  · rw [h]; exact t3
  · exact h
theorem StF.tbIfs {p : Addr → Prop} [DecidablePred p] {x : Option Loc} (S : StF c F g σ H δ ρ) (h : ∀ b, p b → ∃ l, g b = some l) : ∀ t ∈ c.Ts, Tb c.B F H t ∧ F t = none ∧ (fun b => if p b then x else g b) t = none :=
  S.tbG (g' := fun b => if p b then x else g b) fun b => by
    by_cases q : p b
    · exact .inl (h b q)
    · exact .inr (.inl (if_neg q))
theorem StF.tbIf {a : Addr} {l0 : Loc} {x : Option Loc} (S : StF c F g σ H δ ρ) (h : g a = some l0) : ∀ t ∈ c.Ts, Tb c.B F H t ∧ F t = none ∧ (fun b => if b = a then x else g b) t = none :=
  S.tbIfs (p := fun b => b = a) fun b q => ⟨l0, by rw [q]; exact h⟩
/-- a new thing is owned -/
theorem StF.tbN {a : Addr} {x : Option Loc} (S : StF c F g σ H δ ρ) {u : HO} {H2 : Hp} (h : H2 = upd H a u) (hp : H a = none) : ∀ t ∈ c.Ts, Tb c.B F H2 t ∧ F t = none ∧ (fun b => if b = a then x else g b) t = none := fun t ht => by
  subst h
  obtain ⟨t1, t2, t3⟩ := S.tb t ht
  obtain ⟨ps, h, _⟩ := id t1
  have n : t ≠ a := fun y => by rw [y, hp] at h; cases h
  exact ⟨t1.mono (Ex.refl F) (upd_ne n), t2, (if_neg n).trans t3⟩
/-- an owned thing becomes firm -/
theorem StF.tbZ {a : Addr} {l : Loc} {u : HO} {x : Option Loc} (S : StF c F g σ H δ ρ) (hg : g a = some l) : ∀ t ∈ c.Ts, Tb c.B (upd F a u) H t ∧ upd F a u t = none ∧ (fun b => if b = a then x else g b) t = none := fun t ht => by
  obtain ⟨t1, t2, t3⟩ := S.tb t ht
  have n : t ≠ a := fun y => by rw [y, hg] at t3; cases t3
  exact ⟨t1.mono (Ex.new (S.gn a l hg).1) rfl, by rw [upd_ne n]; exact t2, (if_neg n).trans t3⟩
theorem StF.push (S : StF c F g σ H δ ρ) {p : V × SV} (h : TempOk c F g H ρ.length p) : StF c F g σ H δ (ρ ++ [p]) :=
  ⟨S.fh, S.f0, S.fn, S.h0, S.len, S.sl, fun n q hq => by
    by_cases e : n < ρ.length
    · rw [List.getElem?_append_left e] at hq; exact S.tm n q hq
    · rw [List.getElem?_append_right (by omega)] at hq
      have : n - ρ.length = 0 := by
        have := (List.getElem?_eq_some_iff.mp hq).1
        simp at this; omega
      rw [this] at hq
      have e2 : n = ρ.length := by omega
      subst e2
      simp at hq; subst hq; exact h, S.gn, S.an, S.tb⟩
theorem StF.drop {ρ' : List (V × SV)} (S : StF c F g σ H δ (ρ ++ ρ')) : StF c F g σ H δ ρ :=
  ⟨S.fh, S.f0, S.fn, S.h0, S.len, S.sl, fun n q hq => S.tm n q (by
    rw [List.getElem?_append_left (List.getElem?_eq_some_iff.mp hq).1]; exact hq), S.gn, S.an, S.tb⟩
theorem StF.last {p : V × SV} (S : StF c F g σ H δ (ρ ++ [p])) : TempOk c F g H ρ.length p := S.tm _ _ (by rw [List.getElem?_append_right (Nat.le_refl _)]; simp)
theorem St1.st (S : St1 c σ H δ ρ v r) : St c σ H δ ρ := let ⟨F, g, S, _⟩ := S; ⟨F, g, S⟩
theorem St.drop {ρ' : List (V × SV)} (S : St c σ H δ (ρ ++ ρ')) : St c σ H δ ρ := let ⟨F, g, S⟩ := S; ⟨F, g, S.drop⟩
theorem St1.push (S : St1 c σ H δ ρ v (.d t)) : St c σ H δ (ρ ++ [(v, .d t)]) := by
  obtain ⟨F, g, S, h⟩ := S
  exact ⟨F, g, S.push h⟩
theorem St1.pushP {a : Addr} (S : St1 c σ H δ ρ v (.ptr a)) : St c σ H δ (ρ ++ [(v, .ptr a)]) := by
  obtain ⟨F, g, S, h⟩ := S
  exact ⟨F, g, S.push h⟩
/-- a value without objects -/
def flat : V → T → Prop
  | v, .non => v = .non
  | v, .bl b => v = .bl b
  | v, .int i => v = .int i
  | v, .str x => v = .str x
  | v, .raw u => v = u
  | _, _ => False
theorem flat.dv {B : Bs} : ∀ {t : T} {v : V}, flat v t → DV B F v t
  | .non, _, h => by simp only [DV]; exact h
  | .bl _, _, h => by simp only [DV]; exact h
  | .int _, _, h => by simp only [DV]; exact h
  | .str _, _, h => by simp only [DV]; exact h
  | .raw _, _, h => by simp only [DV]; exact h
  | .fn _, _, h => by cases h
  | .lst _, _, h => by cases h
  | .rl _, _, h => by cases h
  | .dN _ _, _, h => by cases h
  | .dK _ _, _, h => by cases h
  | .tup _, _, h => by cases h
  | .obj _ _ _, _, h => by cases h
theorem St.flat (S : St c σ H δ ρ) (h : flat v t) : St1 c σ H δ ρ v (.d t) := by
  obtain ⟨F, g, S⟩ := S
  exact ⟨F, g, S, h.dv⟩
/-- a new object of frozen items, owned -/
theorem StF.newOwn (S : StF c F g σ H δ ρ) {p : Addr} {u : HO} (hp : H p = none) : ∃ g', StF c F g' σ (upd H p u) δ ρ ∧ g' p = some .top ∧ F p = none ∧ c.H0 p = none := by
  have hF : F p = none := S.fh.fresh hp
  have hA : c.A ≠ some p := fun e => by
    obtain ⟨_, ⟨o, h⟩, _⟩ := S.an p e
    rw [hp] at h; cases h
  have h0 : c.H0 p = none := by
    cases z : c.H0 p with
    | none => rfl
    | some o => obtain ⟨y, hy⟩ := S.here z; rw [hy] at hp; cases hp
  have S1 := S.grow (H' := upd H p u) (F' := F) (Ex.new hp) (Ex.refl F) (S.fh.trans (Ex.new hp)) (fun _ _ _ => rfl)
  have gp : g p = none := by
    cases z : g p with
    | none => rfl
    | some l =>
      obtain ⟨_, o, h⟩ := S.gn p l z
      rw [hp] at h; cases h
  have hk : ∀ a l, g a = some l → (if a = p then some Loc.top else g a) = some l := fun a l h => by
    have : a ≠ p := fun q => by rw [q, gp] at h; cases h
    rw [if_neg this]; exact h
  refine ⟨fun b => if b = p then some .top else g b, ⟨S1.fh, S1.f0, S1.fn, S1.h0, S1.len, fun i s e => (S1.sl i s e).mono (Ex.refl F) (fun a h => hk a _ h) (fun _ _ => rfl), fun n q e => (S1.tm n q e).mono (Ex.refl F) (fun a h => hk a _ h) (fun _ _ => rfl), fun a l e => ?_, S1.an, S.tbN rfl hp⟩, if_pos rfl, hF, h0⟩
  · by_cases q : a = p
    · subst q; exact ⟨hF, _, upd_same⟩
    · rw [if_neg q] at e; exact S1.gn a l e
theorem St.newLst (S : St c σ H δ ρ) {p : Addr} {xs : List V} {ts : List T} (hp : H p = none) (h : ∀ F g, StF c F g σ H δ ρ → DVs c.B F xs ts) : St1 c σ (upd H p (.lst xs)) δ ρ (.ref p) (.own p (.lst ts)) := by
  obtain ⟨F, g, S⟩ := S
  obtain ⟨g', S', hg, _, h0⟩ := S.newOwn (u := .lst xs) hp
  exact ⟨F, g', S', rfl, hg, h0, xs, upd_same, h F g S⟩
theorem StF.newTup (S : StF c F g σ H δ ρ) {p : Addr} {u : HO} (hp : H p = none) : StF c (upd F p u) g σ (upd H p u) δ ρ ∧ Ex F (upd F p u) :=
  have hF : F p = none := S.fh.fresh hp
  ⟨S.grow (Ex.new hp) (Ex.new hF) S.fh.both (fun a o e => upd_ne (ne_of_none e hp)), Ex.new hF⟩
/-- an owned list is frozen -/
theorem St1.freeze {a : Addr} (S : St1 c σ H δ ρ v (.own a (.lst ts))) : St1 c σ H δ ρ v (.d (.lst ts)) := by
  obtain ⟨F, g, S, rfl, hg, h0, xs, hx, hd⟩ := S
  obtain ⟨hF, _⟩ := S.gn a _ hg
  have hk : ∀ b l, l ≠ Loc.top → g b = some l → (if b = a then none else g b) = some l := fun b l hl h => by
    have : b ≠ a := fun q => by rw [q, hg] at h; cases h; exact hl rfl
    rw [if_neg this]; exact h
  refine ⟨upd F a (.lst xs), fun b => if b = a then none else g b, ⟨S.fh.in1 hx, S.f0.trans (Ex.new hF), fun b o e => ?_, S.h0, S.len, fun i s e => (S.sl i s e).mono (Ex.new hF) (fun b h => hk b _ (by intro z; cases z) h) (fun _ _ => rfl), fun n p hp => (S.tm n p hp).mono (Ex.new hF) (fun b h => hk b _ (by intro z; cases z) h) (fun _ _ => rfl), fun b l e => ?_, fun b e => ?_, S.tbZ hg⟩, DV.lst_ upd_same (DVs.mono (Ex.new hF) _ _ hd)⟩
  · have : b ≠ a := fun q => by rw [q, h0] at e; cases e
    rw [upd_ne this]; exact S.fn b o e
  · by_cases q : b = a
    · rw [if_pos q] at e; cases e
    · rw [if_neg q] at e; rw [upd_ne q]; exact S.gn b l e
  · obtain ⟨h1, h2⟩ := S.an b e
    by_cases q : b = a
    · obtain ⟨_, o, ho⟩ := h2
      rw [q, h0] at ho; cases ho
    · rw [upd_ne q]; exact ⟨h1, h2⟩
/-- a list or dict that a slot owned is data from now on -/
def OW.fr : OW → Option T
  | .lst ts => some (.lst ts)
  | .dK ks vs => some (.dK ks vs)
  | .dN ks vs => some (.dN ks vs)
  | .ins C _ ns ts => some (.obj C ns ts)
  | .lk _ _ _ _ => none
  | .txs _ => none
  | .ex _ => none
theorem St1.freezeO {a : Addr} {o : OW} (S : St1 c σ H δ ρ v (.own a o)) (hf : o.fr = some t) : St1 c σ H δ ρ v (.d t) := by
  obtain ⟨F, g, S, rfl, hg, h0, ho⟩ := S
  obtain ⟨hF, u, hx⟩ := S.gn a _ hg
  have hk : ∀ b l, l ≠ Loc.top → g b = some l → (if b = a then none else g b) = some l := fun b l hl h => by
    have : b ≠ a := fun q => by rw [q, hg] at h; cases h; exact hl rfl
    rw [if_neg this]; exact h
  have e3 : Ex F (upd F a u) := Ex.new hF
  have hd : DV c.B (upd F a u) (.ref a) t := by
    cases o with
    | lst ts => cases hf; obtain ⟨xs, h1, h2⟩ := ho; rw [hx] at h1; cases h1; simp only [DV]; exact ⟨a, xs, rfl, upd_same, DVs.mono e3 _ _ h2⟩
    | dK ks vs => cases hf; obtain ⟨xs, h1, h3, h2⟩ := ho; rw [hx] at h1; cases h1; simp only [DV]; exact ⟨a, xs, rfl, upd_same, h3, DVs.mono e3 _ _ h2⟩
    | dN ks vs => cases hf; obtain ⟨xs, h1, h3, h4, h2⟩ := ho; rw [hx] at h1; cases h1; simp only [DV]; exact ⟨a, xs, rfl, upd_same, h3, DVs.mono e3 _ _ h4, DVs.mono e3 _ _ h2⟩
    | ins C dx ns ts => cases hf; obtain ⟨xs, h1, h3, h2⟩ := ho; rw [hx] at h1; cases h1; simp only [DV]; exact ⟨a, dx, xs, rfl, upd_same, h3, DVs.mono e3 _ _ h2⟩
    | lk ob es ks vs => cases hf
    | txs ks => cases hf
    | ex u => cases hf
  refine ⟨upd F a u, fun b => if b = a then none else g b, ⟨S.fh.in1 hx, S.f0.trans (Ex.new hF), fun b o e => ?_, S.h0, S.len, fun i s e => (S.sl i s e).mono (Ex.new hF) (fun b h => hk b _ (by intro z; cases z) h) (fun _ _ => rfl), fun n p hp => (S.tm n p hp).mono (Ex.new hF) (fun b h => hk b _ (by intro z; cases z) h) (fun _ _ => rfl), fun b l e => ?_, fun b e => ?_, S.tbZ hg⟩, hd⟩
  · have : b ≠ a := fun q => by rw [q, h0] at e; cases e
    rw [upd_ne this]; exact S.fn b o e
  · by_cases q : b = a
    · rw [if_pos q] at e; cases e
    · rw [if_neg q] at e; rw [upd_ne q]; exact S.gn b l e
  · obtain ⟨h1, h2⟩ := S.an b e
    by_cases q : b = a
    · obtain ⟨_, o, ho⟩ := h2
      rw [q, h0] at ho; cases ho
    · rw [upd_ne q]; exact ⟨h1, h2⟩
end
end DL

namespace DL
open PySem L2
section
variable {c : Cn} {F F' : Hp} {g g' : Addr → Option Loc} {σ : L2.St} {H H' : Hp} {δ δ' : List SV} {ρ : List (V × SV)} {i : Nat} {t : T} {v : V} {r : SV}

/-! ### a slot is stored -/
theorem TempOk.at {p : V × SV} {n : Nat} {l : Loc} (a : Addr) (hg : g a ≠ some (.tmp n)) (q : TempOk c F g H n p) : TempOk c F (fun b => if b = a then some l else g b) H n p :=
  q.mono (Ex.refl F) (fun b h => by
    have : b ≠ a := fun e => by rw [e] at h; exact hg h
    rw [if_neg this]; exact h) (fun _ _ => rfl)
theorem SlotOk.at {l : Loc} {x : Option V} {s : SV} {j : Nat} (a : Addr) (hg : g a ≠ some (.slot j)) (q : SlotOk c F g H j x s) : SlotOk c F (fun b => if b = a then some l else g b) H j x s :=
  q.mono (Ex.refl F) (fun b h => by
    have : b ≠ a := fun e => by rw [e] at h; exact hg h
    rw [if_neg this]; exact h) (fun _ _ => rfl)
theorem St1.store (S : St1 c σ H δ ρ v r) : St c (σ.set i (some v)) H (δ.set i r) ρ := by
  obtain ⟨F, g, S, h⟩ := S
  have key : ∀ g' : Addr → Option Loc, (∀ j s x, j ≠ i → SlotOk c F g H j x s → SlotOk c F g' H j x s) → (∀ n p, TempOk c F g H n p → TempOk c F g' H n p) → SlotOk c F g' H i (some v) r → (∀ a l, g' a = some l → F a = none ∧ ∃ o, H a = some o) → (∀ b, (∃ l, g b = some l) ∨ g' b = g b ∨ g' b = none) → St c (σ.set i (some v)) H (δ.set i r) ρ := fun g' h1 ht h2 h3 h4 =>
    ⟨F, g', S.fh, S.f0, S.fn, S.h0, by rw [List.length_set, List.length_set]; exact S.len, fun j s e => by
      by_cases q : j = i
      · subst q
        have hj : j < δ.length := by
          have := (List.getElem?_eq_some_iff.mp e).1
          rwa [List.length_set] at this
        rw [List.getElem?_set_self hj] at e
        cases e
        rw [List.getElem?_set_self (by rw [S.len]; exact hj)]
        exact h2
      · rw [List.getElem?_set_ne (Ne.symm q)] at e ⊢
        exact h1 j s _ q (S.sl j s e), fun n p e => ht n p (S.tm n p e), h3, S.an, S.tbG h4⟩
  cases r with
  | no => exact key g (fun _ _ _ _ q => q) (fun _ _ q => q) trivial S.gn fun _ => .inr (.inl rfl)
  | d t => exact key g (fun _ _ _ _ q => q) (fun _ _ q => q) ⟨v, rfl, h⟩ S.gn fun _ => .inr (.inl rfl)
  | ptr a => exact key g (fun _ _ _ _ q => q) (fun _ _ q => q) (by rw [show v = .ref a from h]; exact (rfl : some (V.ref a) = some (V.ref a))) S.gn fun _ => .inr (.inl rfl)
  | arg a o => exact h.elim
  | lv _ _ => exact h.elim
  | tv _ _ => exact h.elim
  | zv _ _ _ _ _ => exact h.elim
  | nst a ns =>
    obtain ⟨rfl, h⟩ := h
    classical
    have hin : ∀ b, b = a ∨ b ∈ adrs ns → g b = some Loc.top := fun b hb => by
      rcases hb with rfl | hb
      · exact h.ga
      · exact (h.gi b hb).1
    have hk : ∀ (b : Addr) (l : Loc), l ≠ .top → g b = some l → (if b = a ∨ b ∈ adrs ns then some (Loc.slot i) else g b) = some l := fun b l hl hb => by
      rw [if_neg fun z => hl (by rw [hin b z] at hb; injection hb with hb; exact hb.symm)]; exact hb
    refine key (fun b => if b = a ∨ b ∈ adrs ns then some (.slot i) else g b) (fun j s x hj q => q.mono (Ex.refl F) (fun b hb => hk b _ (by intro z; cases z) hb) (fun _ _ => rfl)) (fun n p q => q.mono (Ex.refl F) (fun b hb => hk b _ (by intro z; cases z) hb) (fun _ _ => rfl)) ⟨rfl, h.ls, if_pos (.inl rfl), h.h0, fun b hb => ⟨if_pos (.inr hb), (h.gi b hb).2⟩, h.nd⟩ (fun b l e => ?_) fun b => ?_
    · by_cases q : b = a ∨ b ∈ adrs ns
      · exact S.gn b _ (hin b q)
      · rw [if_neg q] at e; exact S.gn b l e
    · by_cases q : b = a ∨ b ∈ adrs ns
      · exact .inl ⟨_, hin b q⟩
      · exact .inr (.inl (if_neg q))
  | own a o =>
    obtain ⟨rfl, h1, h2, h3⟩ := h
    refine key (fun b => if b = a then some (.slot i) else g b) (fun j s x hj q => q.at a (by rw [h1]; intro z; cases z)) (fun n p q => q.at a (by rw [h1]; intro z; cases z)) ⟨rfl, if_pos rfl, h2, h3⟩ (fun b l e => ?_) fun b => ?_
    · by_cases q : b = a
      · rw [q]; exact S.gn a _ h1
      · rw [if_neg q] at e; exact S.gn b l e
    · by_cases q : b = a
      · exact .inl ⟨_, by rw [q]; exact h1⟩
      · exact .inr (.inl (if_neg q))
/-- the object that slot i owns is changed -/
theorem StF.updO {a : Addr} {o o' : OW} {u : HO} (S : StF c F g σ H δ ρ) (h : δ[i]? = some (.own a o)) (hn : OwAt c.B F (upd H a u) a o') : StF c F g σ (upd H a u) (δ.set i (.own a o')) ρ := by
  obtain ⟨e1, h1, h2, h3⟩ := S.sl i _ h
  obtain ⟨hF, _⟩ := S.gn a _ h1
  have hA : c.A ≠ some a := fun q => by
    obtain ⟨_, _, o, ho⟩ := S.an a q
    rw [h2] at ho; cases ho
  refine ⟨S.fh.upd2 hF, S.f0, S.fn, fun b o e hb hT => ?_, by rw [List.length_set]; exact S.len, fun j s e => ?_, fun n p e => (S.tm n p e).mono (Ex.refl F) (fun _ h => h) (fun b hb => upd_ne fun z => by rw [z, h1] at hb; cases hb), fun b l e => ?_, fun b e => ?_, S.tbU h1⟩
  · have : b ≠ a := fun q => by rw [q, h2] at e; cases e
    rw [upd_ne this]; exact S.h0 b o e hb hT
  · by_cases q : j = i
    · subst q
      rw [List.getElem?_set_self (List.getElem?_eq_some_iff.mp h).1] at e
      cases e
      exact ⟨e1, h1, h2, hn⟩
    · rw [List.getElem?_set_ne (Ne.symm q)] at e
      refine (S.sl j s e).mono (Ex.refl F) (fun _ h => h) fun b hb => upd_ne fun z => ?_
      rw [z, h1] at hb
      injection hb with hb; injection hb with hb
      exact q hb.symm
  · obtain ⟨x1, x2⟩ := S.gn b l e
    refine ⟨x1, ?_⟩
    by_cases q : b = a
    · exact ⟨u, by rw [q, upd_same]⟩
    · rw [upd_ne q]; exact x2
  · obtain ⟨x1, x2, x3⟩ := S.an b e
    exact ⟨x1, by rw [upd_ne (fun q => hA (by rw [← q]; exact e))]; exact x2, x3⟩
theorem StF.updA {a : Addr} {o o' : OW} {u : HO} (S : StF c F g σ H δ ρ) (h : δ[i]? = some (.arg a o)) (hn : OwAt c.B F (upd H a u) a o') : StF c F g σ (upd H a u) (δ.set i (.arg a o')) ρ := by
  obtain ⟨e1, h1, h2, h3⟩ := S.sl i _ h
  obtain ⟨hF, _⟩ := S.gn a _ h1
  refine ⟨S.fh.upd2 hF, S.f0, S.fn, fun b o e hb hT => ?_, by rw [List.length_set]; exact S.len, fun j s e => ?_, fun n p e => (S.tm n p e).mono (Ex.refl F) (fun _ h => h) (fun b hb => upd_ne fun z => by rw [z, h1] at hb; cases hb), fun b l e => ?_, fun b e => ?_, S.tbU h1⟩
  · have : b ≠ a := fun q => hb (by rw [q]; exact h2)
    rw [upd_ne this]; exact S.h0 b o e hb hT
  · by_cases q : j = i
    · subst q
      rw [List.getElem?_set_self (List.getElem?_eq_some_iff.mp h).1] at e
      cases e
      exact ⟨e1, h1, h2, hn⟩
    · rw [List.getElem?_set_ne (Ne.symm q)] at e
      refine (S.sl j s e).mono (Ex.refl F) (fun _ h => h) fun b hb => upd_ne fun z => ?_
      rw [z, h1] at hb
      injection hb with hb; injection hb with hb
      exact q hb.symm
  · obtain ⟨x1, x2⟩ := S.gn b l e
    refine ⟨x1, ?_⟩
    by_cases q : b = a
    · exact ⟨u, by rw [q, upd_same]⟩
    · rw [upd_ne q]; exact x2
  · obtain ⟨x1, x2, x3⟩ := S.an b e
    by_cases q : b = a
    · exact ⟨x1, ⟨u, by rw [q, upd_same]⟩, x3⟩
    · exact ⟨x1, by rw [upd_ne q]; exact x2, x3⟩
theorem StF.temps {ps : List (V × SV)} (S : StF c F g σ H δ (ρ ++ ps)) : ∀ n p, ps[n]? = some p → TempOk c F g H (ρ.length + n) p := fun n p hp => S.tm _ _ (by
  rw [List.getElem?_append_right (Nat.le_add_right _ _)]; simpa using hp)
theorem dvs_of : ∀ {vs : List V} {ts : List T} {m : Nat}, vs.length = (ts.map SV.d).length → (∀ n p, (vs.zip (ts.map SV.d))[n]? = some p → TempOk c F g H (m + n) p) → DVs c.B F vs ts
  | [], [], _, _, _ => .nil
  | v :: vs, t :: ts, m, hl, h => .cons (h 0 (v, .d t) (by simp)) (dvs_of (m := m + 1) (by simpa using hl) fun n p hp => by
      have := h (n + 1) p (by simpa using hp)
      rw [show m + 1 + n = m + (n + 1) by omega]; exact this)
  | [], _ :: _, _, hl, _ => by simp at hl
  | _ :: _, [], _, hl, _ => by simp at hl
/-- all that was put by is data -/
theorem St.args {vs : List V} {ts : List T} (hl : vs.length = (ts.map SV.d).length) (S : St c σ H δ (ρ ++ vs.zip (ts.map SV.d))) : ∃ F g, StF c F g σ H δ ρ ∧ DVs c.B F vs ts := by
  obtain ⟨F, g, S⟩ := S
  exact ⟨F, g, S.drop, dvs_of hl S.temps⟩
end

/-! ### judgements over readings -/
def EV (c : Cn) (te : TE) (δ : List SV) (Post : List SV → SV → Prop) : Prop :=
  ∀ σ H ρ Q, St c σ H δ ρ → (∀ v H' δ' r, Post δ' r → St1 c σ H' δ' ρ v r → Q v H') → te σ H Q
def EVT (c : Cn) (tt : TT) (δ : List SV) (Post : List SV → Bool → Prop) : Prop :=
  ∀ σ H ρ Q, St c σ H δ ρ → (∀ b H' δ', Post δ' b → St c σ H' δ' ρ → Q b H') → tt σ H Q
def EVA (c : Cn) (ta : TA) (δ : List SV) (Post : List SV → List SV → Prop) : Prop :=
  ∀ σ H ρ Q, St c σ H δ ρ → (∀ vs H' δ' rs, Post δ' rs → vs.length = rs.length → St c σ H' δ' (ρ ++ vs.zip rs) → Q vs H') → ta σ H Q
/-- an operation on two values, the second on top -/
def OP2 (c : Cn) (f : R2) (δ : List SV) (s1 s2 : SV) (Post : List SV → SV → Prop) : Prop :=
  ∀ σ H ρ x y Q, St c σ H δ (ρ ++ [(x, s1)] ++ [(y, s2)]) → (∀ v H' δ' r, Post δ' r → St1 c σ H' δ' ρ v r → Q v H') → f x y H Q
def OP1 (c : Cn) (f : V → Hp → VK → Prop) (δ : List SV) (s1 : SV) (Post : List SV → SV → Prop) : Prop :=
  ∀ σ H ρ x Q, St c σ H δ (ρ ++ [(x, s1)]) → (∀ v H' δ' r, Post δ' r → St1 c σ H' δ' ρ v r → Q v H') → f x H Q
def OPA (c : Cn) (f : List V → Hp → VK → Prop) (δ : List SV) (rs : List SV) (Post : List SV → SV → Prop) : Prop :=
  ∀ σ H ρ vs Q, vs.length = rs.length → St c σ H δ (ρ ++ vs.zip rs) → (∀ v H' δ' r, Post δ' r → St1 c σ H' δ' ρ v r → Q v H') → f vs H Q
structure DEnds where
  nx : List SV → Prop := fun _ => False
  rt : List SV → SV → Prop := fun _ _ => False
  bk : List SV → Prop := fun _ => False
  ct : List SV → Prop := fun _ => False
structure Meets (c : Cn) (ρ : List (V × SV)) (D : Ends) (R : DEnds) : Prop where
  nx : ∀ σ H δ, R.nx δ → St c σ H δ ρ → D.nx σ H
  rt : ∀ v σ H δ r, R.rt δ r → St1 c σ H δ ρ v r → D.rt v H
  bk : ∀ σ H δ, R.bk δ → St c σ H δ ρ → D.bk σ H
  ct : ∀ σ H δ, R.ct δ → St c σ H δ ρ → D.ct σ H
def ES (c : Cn) (ts : TS) (δ : List SV) (R : DEnds) : Prop := ∀ σ H ρ D, St c σ H δ ρ → Meets c ρ D R → ts D σ H
/-- the slots told by ws alone are stored -/
def OnlyAt (ws : Nat → Prop) (σ σ' : L2.St) : Prop := σ'.length = σ.length ∧ ∀ i, ¬ ws i → σ'[i]? = σ[i]?
def All (_ : Nat) : Prop := True
theorem all_in {i : Nat} : All i := trivial
def GT (c : Cn) (g : TG) (ws : Nat → Prop) (r : SV) (δ : List SV) (Post : List SV → Prop) : Prop :=
  ∀ v σ H ρ Q, St1 c σ H δ ρ v r → (∀ σ' H' δ', Post δ' → St c σ' H' δ' ρ → OnlyAt ws σ σ' → Q σ' H') → g v σ H Q

/-- what may be put by as a temporary: as it is; a new list is frozen -/
inductive Pu : SV → SV → Prop
  | d {t : T} : Pu (.d t) (.d t)
  | ptr {a : Addr} : Pu (.ptr a) (.ptr a)
  | no : Pu .no .no
  | fr {a : Addr} {ts : List T} : Pu (.own a (.lst ts)) (.d (.lst ts))
  | frO {a : Addr} {o : OW} {t : T} (h : o.fr = some t) : Pu (.own a o) (.d t)
theorem St1.put {c : Cn} {σ : L2.St} {H : Hp} {δ : List SV} {ρ : List (V × SV)} {v : V} {r r' : SV} (S : St1 c σ H δ ρ v r) (p : Pu r r') : St c σ H δ (ρ ++ [(v, r')]) := by
  cases p with
  | d => exact S.push
  | ptr => exact S.pushP
  | no => obtain ⟨F, g, S, h⟩ := S; exact ⟨F, g, S.push (by trivial)⟩
  | fr => exact S.freeze.push
  | frO h => exact (S.freezeO h).push

section
variable {c : Cn} {δ : List SV} {Post : List SV → SV → Prop} {ta tb te : TE} {i : Nat} {t : T} {tt tu : TT}
/-! ### names, constants -/
theorem ev_var (h : δ[i]? = some (.d t)) (k : Post δ (.d t)) : EV c (tVar i) δ Post := fun σ H ρ Q S q => by
  obtain ⟨F, g, S⟩ := S
  obtain ⟨v, e, hv⟩ := S.data h
  exact ⟨v, e, q v H δ _ k ⟨F, g, S, hv⟩⟩
theorem St.join {σ : L2.St} {i : Nat} {v : V} (e : (σ[i]?).join = some v) : σ[i]? = some (some v) := by
  cases z : σ[i]? with
  | none => rw [z] at e; cases e
  | some y => rw [z] at e; simp at e; rw [e]
theorem ev_ptr {a : Addr} {o : OW} (h : δ[i]? = some (.own a o) ∨ δ[i]? = some (.arg a o) ∨ δ[i]? = some (.ptr a)) (k : Post δ (.ptr a)) : EV c (tVar i) δ Post := fun σ H ρ Q S q => by
  obtain ⟨F, g, S⟩ := S
  rcases h with h | h | h
  · exact ⟨.ref a, St.join (S.sl i _ h).1, q _ H δ _ k ⟨F, g, S, rfl⟩⟩
  · exact ⟨.ref a, St.join (S.sl i _ h).1, q _ H δ _ k ⟨F, g, S, rfl⟩⟩
  · exact ⟨.ref a, St.join (S.sl i _ h), q _ H δ _ k ⟨F, g, S, rfl⟩⟩
theorem ev_c {v : V} (hf : flat v t) (k : Post δ (.d t)) : EV c (tC v) δ Post := fun σ H ρ Q S q => q v H δ _ k (S.flat hf)
theorem ev_int {n : Int} (k : Post δ (.d (.int n))) : EV c (tC (.int n)) δ Post := ev_c (t := .int n) rfl k
theorem ev_str {x : Str} (k : Post δ (.d (.str x))) : EV c (tC (.str x)) δ Post := ev_c (t := .str x) rfl k
theorem ev_bl {b : Bool} (k : Post δ (.d (.bl b))) : EV c (tC (.bl b)) δ Post := ev_c (t := .bl b) rfl k
theorem ev_non (k : Post δ (.d .non)) : EV c (tC .non) δ Post := ev_c (t := .non) rfl k
theorem EV.imp {P P' : List SV → SV → Prop} (h : EV c te δ P) (k : ∀ δ r, P δ r → P' δ r) : EV c te δ P' := fun σ H ρ Q S q => h σ H ρ Q S fun v H' δ' r p s => q v H' δ' r (k δ' r p) s

/-! ### argument lists, displays -/
theorem ea_nil {P : List SV → List SV → Prop} (k : P δ []) : EVA c tNil δ P := fun σ H ρ Q S q => q [] H δ [] k rfl (by simpa using S)
theorem ea_cons {tr : TA} {P : List SV → List SV → Prop} (h : EV c ta δ fun δ1 r => ∃ r', Pu r r' ∧ EVA c tr δ1 fun δ2 rs => P δ2 (r' :: rs)) : EVA c (tCons ta tr) δ P := fun σ H ρ Q S q =>
  h σ H ρ _ S fun v H' δ' r ⟨r', p, k⟩ S1 => k σ H' (ρ ++ [(v, r')]) _ (S1.put p) fun vs H2 δ2 rs k2 hl S2 => q (v :: vs) H2 δ2 (r' :: rs) k2 (by simp [hl]) (by
    rw [List.zip_cons_cons]
    rw [List.append_assoc] at S2; exact S2)
theorem ev_tup {tr : TA} (h : EVA c tr δ fun δ1 rs => ∃ ts, rs = ts.map .d ∧ ts.length ≤ sizeLine ∧ Post δ1 (.d (.tup ts))) : EV c (tTup tr) δ Post := fun σ H ρ Q S q =>
  h σ H ρ _ S fun vs H' δ' rs ⟨ts, e, hz, k⟩ hl S1 => by
    subst e
    obtain ⟨F, g, S2, hd⟩ := S1.args hl
    refine ⟨by rw [hl, List.length_map]; exact hz, fun p hp => ?_⟩
    obtain ⟨S3, e3⟩ := S2.newTup (u := .tup vs) hp
    exact q _ _ δ' _ k ⟨_, g, S3, DV.tup_ (SqT.of upd_same) (DVs.mono e3 _ _ hd)⟩
theorem ev_lst {tr : TA} (h : EVA c tr δ fun δ1 rs => ∃ ts, rs = ts.map .d ∧ ts.length ≤ sizeLine ∧ ∀ p, Post δ1 (.own p (.lst ts))) : EV c (tLst tr) δ Post := fun σ H ρ Q S q =>
  h σ H ρ _ S fun vs H' δ' rs ⟨ts, e, hz, k⟩ hl S1 => by
    subst e
    obtain ⟨F, g, S2, hd⟩ := S1.args hl
    refine ⟨by rw [hl, List.length_map]; exact hz, fun p hp => ?_⟩
    obtain ⟨g', S', hg, _, h0⟩ := S2.newOwn (u := .lst vs) hp
    exact q _ _ δ' _ (k p) ⟨F, g', S', rfl, hg, h0, vs, upd_same, hd⟩

/-! ### operations -/
theorem ev_op {f : R2} (h : EV c ta δ fun δ1 r1 => ∃ s1, Pu r1 s1 ∧ EV c tb δ1 fun δ2 r2 => ∃ s2, Pu r2 s2 ∧ OP2 c f δ2 s1 s2 Post) : EV c (tOp f ta tb) δ Post := fun σ H ρ Q S q =>
  h σ H ρ _ S fun x H1 δ1 r1 ⟨s1, p1, k1⟩ S1 => k1 σ H1 (ρ ++ [(x, s1)]) _ (S1.put p1) fun y H2 δ2 r2 ⟨s2, p2, k2⟩ S2 => k2 σ H2 ρ x y Q (S2.put p2) q
theorem ev_un {f : V → Hp → VK → Prop} (h : EV c ta δ fun δ1 r1 => ∃ s1, Pu r1 s1 ∧ OP1 c f δ1 s1 Post) : EV c (tUn f ta) δ Post := fun σ H ρ Q S q =>
  h σ H ρ _ S fun x H1 δ1 r1 ⟨s1, p1, k1⟩ S1 => k1 σ H1 ρ x Q (S1.put p1) q
theorem ev_cb {f : List V → Hp → VK → Prop} {tr : TA} (h : EVA c tr δ fun δ1 rs => OPA c f δ1 rs Post) : EV c (tCB f tr) δ Post := fun σ H ρ Q S q =>
  h σ H ρ _ S fun vs H' δ' rs k hl S1 => k σ H' ρ vs Q hl S1 q
/-! ### tests -/
theorem et_val {f : TE} {P : List SV → Bool → Prop} (h : EV c f δ fun δ1 r => ∃ b, r = .d (.bl b) ∧ P δ1 b) : EVT c (tTest f) δ P := fun σ H ρ Q S q =>
  h σ H ρ _ S fun v H' δ' r ⟨b, e, k⟩ S1 => by
    subst e
    obtain ⟨F, g, S1, hv⟩ := S1
    exact ⟨b, by simpa only [TopOk, DV] using hv, q b H' δ' k ⟨F, g, S1⟩⟩
theorem et_B {f : TE} {P : List SV → Bool → Prop} (h : EV c f δ fun δ1 r => ∃ b, r = .d (.bl b) ∧ P δ1 b) : EVT c (tB f) δ P := fun σ H ρ Q S q =>
  h σ H ρ _ S fun v H' δ' r ⟨b, e, k⟩ S1 => by
    subst e
    obtain ⟨F, g, S1, hv⟩ := S1
    exact ⟨b, by simpa only [TopOk, DV] using hv, q b H' δ' k ⟨F, g, S1⟩⟩
theorem et_not {P : List SV → Bool → Prop} (h : EVT c tt δ fun δ1 b => P δ1 (!b)) : EVT c (tNot tt) δ P := fun σ H ρ Q S q => h σ H ρ _ S fun b H' δ' k S1 => q _ H' δ' k S1
theorem et_and {P : List SV → Bool → Prop} (h : EVT c tt δ fun δ1 b => if b = true then EVT c tu δ1 P else P δ1 false) : EVT c (tAnd tt tu) δ P := fun σ H ρ Q S q => h σ H ρ _ S fun b H' δ' k S1 => by
  cases b with
  | true => exact (show EVT c tu δ' P from k) σ H' ρ Q S1 q
  | false => exact q false H' δ' k S1
theorem et_or {P : List SV → Bool → Prop} (h : EVT c tt δ fun δ1 b => if b = true then P δ1 true else EVT c tu δ1 P) : EVT c (tOr tt tu) δ P := fun σ H ρ Q S q => h σ H ρ _ S fun b H' δ' k S1 => by
  cases b with
  | true => exact q true H' δ' k S1
  | false => exact (show EVT c tu δ' P from k) σ H' ρ Q S1 q
theorem ev_ifx (h : EVT c tt δ fun δ1 b => if b = true then EV c ta δ1 Post else EV c tb δ1 Post) : EV c (tIf tt ta tb) δ Post := fun σ H ρ Q S q => h σ H ρ _ S fun b H' δ' k S1 => by
  cases b with
  | true => exact (show EV c ta δ' Post from k) σ H' ρ Q S1 q
  | false => exact (show EV c tb δ' Post from k) σ H' ρ Q S1 q
theorem ev_andV (h : EV c ta δ fun δ1 r => ∃ b, r = .d (.bl b) ∧ if b = true then EV c tb δ1 Post else Post δ1 (.d (.bl false))) : EV c (tAndV ta tb) δ Post := fun σ H ρ Q S q => h σ H ρ _ S fun v H' δ' r ⟨b, e, k⟩ S1 => by
  subst e
  obtain ⟨F, g, S1, hv⟩ := S1
  refine ⟨b, by simpa only [TopOk, DV] using hv, ?_⟩
  cases b with
  | true => exact (show EV c tb δ' Post from k) σ H' ρ Q ⟨F, g, S1⟩ q
  | false => exact q _ H' δ' _ k (St.flat ⟨F, g, S1⟩ rfl)
theorem ev_orV (h : EV c ta δ fun δ1 r => ∃ b, r = .d (.bl b) ∧ if b = true then Post δ1 (.d (.bl true)) else EV c tb δ1 Post) : EV c (tOrV ta tb) δ Post := fun σ H ρ Q S q => h σ H ρ _ S fun v H' δ' r ⟨b, e, k⟩ S1 => by
  subst e
  obtain ⟨F, g, S1, hv⟩ := S1
  refine ⟨b, by simpa only [TopOk, DV] using hv, ?_⟩
  cases b with
  | true => exact q _ H' δ' _ k (St.flat ⟨F, g, S1⟩ rfl)
  | false => exact (show EV c tb δ' Post from k) σ H' ρ Q ⟨F, g, S1⟩ q
theorem ev_notV (h : EV c ta δ fun δ1 r => ∃ b, r = .d (.bl b) ∧ Post δ1 (.d (.bl (!b)))) : EV c (tNotV ta) δ Post := fun σ H ρ Q S q => h σ H ρ _ S fun v H' δ' r ⟨b, e, k⟩ S1 => by
  subst e
  obtain ⟨F, g, S1, hv⟩ := S1
  exact ⟨b, by simpa only [TopOk, DV] using hv, q _ H' δ' _ k (St.flat ⟨F, g, S1⟩ rfl)⟩
end

section
variable {c : Cn} {δ : List SV} {R : DEnds} {te : TE} {i : Nat} {t u : TS} {tt : TT} {g : TG}
/-! ### statements -/
theorem es_seq (h : ES c t δ { R with nx := fun δ1 => ES c u δ1 R }) : ES c (tSeq t u) δ R := fun σ H ρ D S M =>
  h σ H ρ _ S ⟨fun σ H δ k S => k σ H ρ D S M, M.rt, M.bk, M.ct⟩
theorem es_next (h : R.nx δ) : ES c tNext δ R := fun σ H ρ D S M => M.nx σ H δ h S
theorem es_break (h : R.bk δ) : ES c tBreak δ R := fun σ H ρ D S M => M.bk σ H δ h S
theorem es_cont (h : R.ct δ) : ES c tCont δ R := fun σ H ρ D S M => M.ct σ H δ h S
theorem es_ret (h : EV c te δ R.rt) : ES c (tRet te) δ R := fun σ H ρ D S M => h σ H ρ _ S fun v H' δ' r k S1 => M.rt v σ H' δ' r k S1
theorem es_retN (h : R.rt δ (.d .non)) : ES c tRetN δ R := fun σ H ρ D S M => M.rt .non σ H δ _ h (S.flat rfl)
theorem es_drop (h : EV c te δ fun δ1 _ => R.nx δ1) : ES c (tDrop te) δ R := fun σ H ρ D S M => h σ H ρ _ S fun v H' δ' r k S1 => M.nx σ H' δ' k S1.st
theorem es_asg (h : EV c te δ fun δ1 r => GT c g All r δ1 R.nx) : ES c (tAsg te g) δ R := fun σ H ρ D S M => h σ H ρ _ S fun v H' δ' r k S1 => k v σ H' ρ _ S1 fun σ2 H2 δ2 k2 S2 _ => M.nx σ2 H2 δ2 k2 S2
theorem OnlyAt.refl (ws : Nat → Prop) (σ : L2.St) : OnlyAt ws σ σ := ⟨rfl, fun _ _ => rfl⟩
theorem OnlyAt.set {ws : Nat → Prop} (σ : L2.St) {i : Nat} (hi : ws i) (x : Option V) : OnlyAt ws σ (σ.set i x) := ⟨List.length_set .., fun j h => List.getElem?_set_ne (fun e => h (by rw [← e]; exact hi))⟩
theorem OnlyAt.trans {ws : Nat → Prop} {σ σ' σ2 : L2.St} (a : OnlyAt ws σ σ') (b : OnlyAt ws σ' σ2) : OnlyAt ws σ σ2 :=
  ⟨b.1.trans a.1, fun i h => (b.2 i h).trans (a.2 i h)⟩
theorem gt_name {ws : Nat → Prop} {r : SV} {P : List SV → Prop} (hi : ws i) (k : P (δ.set i r)) : GT c (gName i) ws r δ P := fun v σ H ρ Q S q => q _ _ _ k S.store (OnlyAt.set σ hi _)
theorem es_if (h : EVT c tt δ fun δ1 b => if b = true then ES c t δ1 R else ES c u δ1 R) : ES c (tIfS tt t u) δ R := fun σ H ρ D S M => h σ H ρ _ S fun b H' δ' k S1 => by
  cases b with
  | true => exact (show ES c t δ' R from k) σ H' ρ D S1 M
  | false => exact (show ES c u δ' R from k) σ H' ρ D S1 M
theorem ES.imp {R' : DEnds} (h : ES c t δ R) (nx : ∀ δ, R.nx δ → R'.nx δ) (rt : ∀ δ r, R.rt δ r → R'.rt δ r) (bk : ∀ δ, R.bk δ → R'.bk δ) (ct : ∀ δ, R.ct δ → R'.ct δ) : ES c t δ R' := fun σ H ρ D S M =>
  h σ H ρ D S ⟨fun σ H δ k S => M.nx σ H δ (nx δ k) S, fun v σ H δ r k S => M.rt v σ H δ r (rt δ r k) S, fun σ H δ k S => M.bk σ H δ (bk δ k) S, fun σ H δ k S => M.ct σ H δ (ct δ k) S⟩
/-- (a, b, ..) = a tuple -/
def GTs (c : Cn) (g : TGs) (ws : Nat → Prop) (ts : List T) (δ : List SV) (Post : List SV → Prop) : Prop :=
  ∀ vs σ H ρ Q, (∃ F g, StF c F g σ H δ ρ ∧ DVs c.B F vs ts) → (∀ σ' H' δ', Post δ' → St c σ' H' δ' ρ → OnlyAt ws σ σ' → Q σ' H') → g vs σ H Q
theorem gts_nil {ws : Nat → Prop} {P : List SV → Prop} (k : P δ) : GTs c gNil ws [] δ P := fun vs σ H ρ Q ⟨F, g, S, h⟩ q => ⟨by simpa only [DVs] using h, q _ _ _ k ⟨F, g, S⟩ (OnlyAt.refl ws σ)⟩
theorem StF.pushAll {F : Hp} {g : Addr → Option Loc} {σ : L2.St} {H : Hp} : ∀ {ts : List T} {vs : List V} {ρ : List (V × SV)}, StF c F g σ H δ ρ → DVs c.B F vs ts → StF c F g σ H δ (ρ ++ vs.zip (ts.map SV.d))
  | [], vs, ρ, S, _ => by simpa using S
  | t :: ts, vs, ρ, S, h => by
    simp only [DVs] at h
    obtain ⟨v, r, rfl, h1, h2⟩ := h
    have S1 : StF c F g σ H δ (ρ ++ [(v, .d t)]) := S.push h1
    have S2 := StF.pushAll S1 h2
    rw [List.append_assoc] at S2
    exact S2
theorem gts_cons {g : TG} {gs : TGs} {ws : Nat → Prop} {t : T} {ts : List T} {P : List SV → Prop} (h : GT c g ws (.d t) δ fun δ1 => GTs c gs ws ts δ1 P) : GTs c (gCons g gs) ws (t :: ts) δ P :=
  fun vs σ H ρ Q ⟨F, g', S, hd⟩ q => by
    simp only [DVs] at hd
    obtain ⟨v, r, rfl, h1, h2⟩ := hd
    refine ⟨v, r, rfl, h v σ H (ρ ++ r.zip (ts.map SV.d)) _ ⟨F, g', S.pushAll h2, h1⟩ fun σ' H' δ' k S' o => ?_⟩
    exact k r σ' H' ρ _ (St.args (by rw [List.length_map]; exact h2.length) S') fun σ2 H2 δ2 k2 S2 o2 => q σ2 H2 δ2 k2 S2 (o.trans o2)
theorem gt_tup {gs : TGs} {ws : Nat → Prop} {ts : List T} {n : Nat} {P : List SV → Prop} (hn : ts.length = n) (h : GTs c gs ws ts δ P) : GT c (gTup c.B.K n gs) ws (.d (.tup ts)) δ P := fun v σ H ρ Q S q => by
  obtain ⟨F, g, S, hd⟩ := S
  have hd : DV c.B F v (.tup ts) := hd
  simp only [DV] at hd
  obtain ⟨a, xs, rfl, h1, h2⟩ := hd
  exact ⟨a, xs, rfl, S.fh.sqt h1, by rw [h2.length, hn], h xs σ H ρ Q ⟨F, g, S, h2⟩ q⟩
end
end DL

namespace DL
open PySem L2

/-! ### loops -/
section
variable {c : Cn} {δ : List SV} {R : DEnds} {tl : TE} {ta : TA} {g : TG} {tb : TS}
theorem Meets.turn {c : Cn} {ρ ρ' : List (V × SV)} {D : Ends} {R : DEnds} {I : List SV → Prop} {N : L2.St → Hp → Prop} (M : Meets c ρ D R) (n : ∀ σ H δ, I δ → St c σ H δ (ρ ++ ρ') → N σ H) :
    Meets c (ρ ++ ρ') { D with nx := N, ct := N, bk := D.nx } { R with nx := I, ct := I, bk := R.nx } :=
  ⟨n, fun v σ H δ r k ⟨F, g, S, t⟩ => M.rt v σ H δ r k ⟨F, g, S.drop, t⟩, fun σ H δ k S => M.nx σ H δ k S.drop, n⟩
theorem DV.int_ {B : Bs} {F : Hp} {v : V} {i : Int} (h : DV B F v (.int i)) : v = .int i := by simpa only [DV] using h
theorem DV.bl_ {B : Bs} {F : Hp} {v : V} {i : Bool} (h : DV B F v (.bl i)) : v = .bl i := by simpa only [DV] using h
theorem DV.str_ {B : Bs} {F : Hp} {v : V} {i : Str} (h : DV B F v (.str i)) : v = .str i := by simpa only [DV] using h
theorem DV.non_ {B : Bs} {F : Hp} {v : V} (h : DV B F v .non) : v = .non := by simpa only [DV] using h
theorem one_int {c : Cn} {σ : L2.St} {H : Hp} {δ : List SV} {ρ : List (V × SV)} {vs : List V} {n : Int} (hl : vs.length = [SV.d (.int n)].length) (S : St c σ H δ (ρ ++ vs.zip [SV.d (.int n)])) : vs = [.int n] ∧ St c σ H δ ρ := by
  obtain ⟨F, g, S', h⟩ := St.args (ts := [.int n]) hl S
  match vs, hl, h with
  | [v], _, h => exact ⟨by rw [h.uncons.1.int_], F, g, S'⟩
/-- while: W falls -/
theorem es_while {tt : TT} (W : Nat → List SV → Prop) (m0 : Nat) (h0 : W m0 δ)
    (hs : ∀ m δ, W m δ → EVT c tt δ fun δ1 b => if b = true then ES c tb δ1 { R with nx := fun δ2 => ∃ m', m' < m ∧ W m' δ2, ct := fun δ2 => ∃ m', m' < m ∧ W m' δ2, bk := R.nx } else R.nx δ1) : ES c (tWhile tt tb) δ R := fun σ H ρ D S M => by
  refine ⟨fun m σ H => ∃ δ, W m δ ∧ St c σ H δ ρ, ⟨m0, δ, h0, S⟩, ?_⟩
  rintro m σ2 H2 ⟨δ2, k, S2⟩
  refine hs m δ2 k σ2 H2 ρ _ S2 fun b H3 δ3 k3 S3 => ?_
  cases b with
  | true =>
    have k4 : ES c tb δ3 { R with nx := fun δ2 => ∃ m', m' < m ∧ W m' δ2, ct := fun δ2 => ∃ m', m' < m ∧ W m' δ2, bk := R.nx } := k3
    refine ⟨fun σ' H' => ∃ m', m' < m ∧ ∃ δ, W m' δ ∧ St c σ' H' δ ρ, fun σ' H' ⟨m', l, q⟩ => ⟨m', l, q⟩, ?_⟩
    have M' := M.turn (ρ' := []) (I := fun δ2 => ∃ m', m' < m ∧ W m' δ2) (N := fun σ' H' => ∃ m', m' < m ∧ ∃ δ, W m' δ ∧ St c σ' H' δ ρ) fun σ H δ ⟨m', l, k⟩ S => ⟨m', l, δ, k, by simpa using S⟩
    exact k4 σ2 H3 ρ _ S3 (by simpa using M')
  | false => exact M.nx σ2 H3 δ3 k3 S3
end
end DL

namespace DL
open PySem L2

/-! ### comprehensions -/
def wd (δ : List SV) : List Nat → List SV
  | [] => δ
  | v :: vs => (wd δ vs).set v .no
theorem wd_len (δ : List SV) : ∀ vs, (wd δ vs).length = δ.length
  | [] => rfl
  | v :: vs => by unfold wd; rw [List.length_set, wd_len δ vs]
theorem wd_get (δ : List SV) : ∀ (vs : List Nat) (i : Nat), (wd δ vs)[i]? = if i ∈ vs then (if i < δ.length then some .no else none) else δ[i]?
  | [], i => by simp [wd]
  | v :: vs, i => by
    unfold wd
    by_cases h : v = i
    · subst h
      rw [if_pos (List.mem_cons_self)]
      by_cases hl : v < δ.length
      · rw [List.getElem?_set_self (by rw [wd_len]; exact hl), if_pos hl]
      · rw [if_neg hl, List.getElem?_eq_none_iff]
        rw [List.length_set, wd_len]; omega
    · rw [List.getElem?_set_ne h, wd_get δ vs i]
      by_cases hi : i ∈ vs
      · rw [if_pos hi, if_pos (List.mem_cons_of_mem _ hi)]
      · rw [if_neg hi, if_neg (fun z => (List.mem_cons.mp z).elim (fun e => h e.symm) hi)]
theorem wipe_len (σ : L2.St) : ∀ vs, (wipe σ vs).length = σ.length := wipe_length σ
theorem wipe_get (σ : L2.St) : ∀ (vs : List Nat) (i : Nat), (wipe σ vs)[i]? = if i ∈ vs then (if i < σ.length then some none else none) else σ[i]?
  | [], i => by simp [wipe]
  | v :: vs, i => by
    unfold wipe
    by_cases h : v = i
    · subst h
      rw [if_pos (List.mem_cons_self)]
      by_cases hl : v < σ.length
      · rw [List.getElem?_set_self (by rw [wipe_len]; exact hl), if_pos hl]
      · rw [if_neg hl, List.getElem?_eq_none_iff]
        rw [List.length_set, wipe_len]; omega
    · rw [List.getElem?_set_ne h, wipe_get σ vs i]
      by_cases hi : i ∈ vs
      · rw [if_pos hi, if_pos (List.mem_cons_of_mem _ hi)]
      · rw [if_neg hi, if_neg (fun z => (List.mem_cons.mp z).elim (fun e => h e.symm) hi)]
theorem wipe_only {vs : List Nat} {σ σ' : L2.St} (o : OnlyAt (· ∈ vs) σ σ') : wipe σ' vs = wipe σ vs := by
  apply List.ext_getElem?
  intro i
  rw [wipe_get, wipe_get, o.1]
  by_cases hi : i ∈ vs
  · rw [if_pos hi, if_pos hi]
  · rw [if_neg hi, if_neg hi, o.2 i hi]
theorem wipe_wipe (σ : L2.St) (vs : List Nat) : wipe (wipe σ vs) vs = wipe σ vs := by
  apply List.ext_getElem?
  intro i
  rw [wipe_get, wipe_len]
  by_cases hi : i ∈ vs
  · rw [if_pos hi, wipe_get, if_pos hi]
  · rw [if_neg hi]
section
variable {c : Cn} {F : Hp} {g : Addr → Option Loc} {σ σ' : L2.St} {H H' : Hp} {δ δ' : List SV} {ρ : List (V × SV)} {vs : List Nat}
theorem StF.wipe (S : StF c F g σ H δ ρ) (vs : List Nat) : StF c F g (wipe σ vs) H (wd δ vs) ρ :=
  ⟨S.fh, S.f0, S.fn, S.h0, by rw [wipe_len, wd_len]; exact S.len, fun i s e => by
    rw [wd_get] at e
    by_cases hi : i ∈ vs
    · rw [if_pos hi] at e
      split at e
      · cases e; trivial
      · cases e
    · rw [if_neg hi] at e
      rw [wipe_get, if_neg hi]
      exact S.sl i s e, S.tm, S.gn, S.an, S.tb⟩
/-- behind a block: the slots outside of vs are as they were -/
theorem StF.unwipe (S : StF c F g σ' H δ ρ) (o : L2.wipe σ' vs = L2.wipe σ vs) : StF c F g σ H (wd δ vs) ρ := by
  have hlen : σ'.length = σ.length := by rw [← wipe_len σ' vs, o, wipe_len]
  refine ⟨S.fh, S.f0, S.fn, S.h0, by rw [wd_len, ← S.len, hlen], fun i s e => ?_, S.tm, S.gn, S.an, S.tb⟩
  rw [wd_get] at e
  by_cases hi : i ∈ vs
  · rw [if_pos hi] at e
    split at e
    · cases e; trivial
    · cases e
  · rw [if_neg hi] at e
    have q := congrArg (·[i]?) o
    simp only [wipe_get, if_neg hi] at q
    rw [← q]
    exact S.sl i s e
/-- the new list of a comprehension -/
theorem StF.retag {p : Addr} {l : Loc} (S : StF c F g σ H δ ρ) (hg : g p = some .top) : StF c F (fun b => if b = p then some l else g b) σ H δ ρ :=
  ⟨S.fh, S.f0, S.fn, S.h0, S.len, fun i s e => (S.sl i s e).at p (by rw [hg]; intro z; cases z), fun n q e => (S.tm n q e).at p (by rw [hg]; intro z; cases z), fun a l' e => by
    by_cases q : a = p
    · rw [q]; exact S.gn p _ hg
    · rw [if_neg q] at e; exact S.gn a l' e, S.an, S.tbIf hg⟩
/-- the temporary on top, owned, changes -/
theorem StF.updT {a : Addr} {o o' : OW} {u : HO} (S : StF c F g σ H δ (ρ ++ [(.ref a, .own a o)])) (hn : OwAt c.B F (upd H a u) a o') : StF c F g σ (upd H a u) δ (ρ ++ [(.ref a, .own a o')]) := by
  obtain ⟨_, h1, h2, h3⟩ := S.last
  obtain ⟨hF, _⟩ := S.gn a _ h1
  have hA : c.A ≠ some a := fun q => by
    obtain ⟨_, _, o, ho⟩ := S.an a q
    rw [h2] at ho; cases ho
  have S0 := S.drop
  have base : StF c F g σ (upd H a u) δ ρ := by
    refine ⟨S.fh.upd2 hF, S.f0, S.fn, fun b o e hb hT => ?_, S.len, fun j s e => (S0.sl j s e).mono (Ex.refl F) (fun _ h => h) fun b hb => upd_ne fun z => (by rw [z, h1] at hb; cases hb), fun n p e => (S0.tm n p e).mono (Ex.refl F) (fun _ h => h) (fun b hb => upd_ne fun z => by
        rw [z, h1] at hb
        injection hb with hb; injection hb with hb
        have := (List.getElem?_eq_some_iff.mp e).1
        omega), fun b l e => ?_, fun b e => ?_, S.tbU h1⟩
    · have : b ≠ a := fun q => by rw [q, h2] at e; cases e
      rw [upd_ne this]; exact S.h0 b o e hb hT
    · obtain ⟨x1, x2⟩ := S.gn b l e
      refine ⟨x1, ?_⟩
      by_cases q : b = a
      · exact ⟨u, by rw [q, upd_same]⟩
      · rw [upd_ne q]; exact x2
    · obtain ⟨x1, x2, x3⟩ := S.an b e
      exact ⟨x1, by rw [upd_ne (fun q => hA (by rw [← q]; exact e))]; exact x2, x3⟩
  exact base.push ⟨rfl, h1, h2, hn⟩
end
section
variable {c : Cn} {δ : List SV} {Post : List SV → SV → Prop} {tl te : TE} {ta : TA} {g : TG} {tt : TT} {vs : List Nat}
theorem et_yes {P : List SV → Bool → Prop} (k : P δ true) : EVT c tYes δ P := fun σ H ρ Q S q => q true H δ k S
/-- one turn of a comprehension, the new list a temporary -/
theorem lc_turn {σ : L2.St} {ρ : List (V × SV)} {J : List T → List SV → Prop} {Dl : Addr} {t : T} {x : V} {F : Hp} {gg : Addr → Option Loc} {H : Hp} {δ : List SV} {acc : List T}
    (hz : acc.length < sizeLine)
    (hs : GT c g (· ∈ vs) (.d t) (wd δ vs) fun δ2 => EVT c tt δ2 fun δ3 b => if b = true then EV c te δ3 fun δ4 r => ∃ t', Pu r (.d t') ∧ J (acc ++ [t']) (wd δ4 vs) else J acc (wd δ3 vs))
    (S : StF c F gg σ H δ (ρ ++ [(.ref Dl, .own Dl (.lst acc))])) (hx : DV c.B F x t) (Nx : Hp → Prop) (hN : ∀ H' acc' δ', J acc' δ' → St c σ H' δ' (ρ ++ [(.ref Dl, .own Dl (.lst acc'))]) → Nx H') :
    g x (wipe σ vs) H fun σ2 H2 => wipe σ2 vs = wipe σ vs ∧ tt σ2 H2 fun b H3 => if b = true then te σ2 H3 fun y H4 => ∃ ac, H4 Dl = some (.lst ac) ∧ ac.length < sizeLine ∧ Nx (upd H4 Dl (.lst (ac ++ [y]))) else Nx H3 := by
  have S1 := S.wipe vs
  refine hs x (wipe σ vs) H _ _ ⟨F, gg, S1, hx⟩ fun σ2 H2 δ2 k2 S2 o => ?_
  have e2 : wipe σ2 vs = wipe σ vs := (wipe_only o).trans (wipe_wipe σ vs)
  refine ⟨e2, k2 σ2 H2 _ _ S2 fun b H3 δ3 k3 S3 => ?_⟩
  cases b with
  | true =>
    show te σ2 H3 fun y H4 => ∃ ac, H4 Dl = some (.lst ac) ∧ ac.length < sizeLine ∧ Nx (upd H4 Dl (.lst (ac ++ [y])))
    refine (show EV c te δ3 fun δ4 r => ∃ t', Pu r (.d t') ∧ J (acc ++ [t']) (wd δ4 vs) from k3) σ2 H3 _ _ S3 fun y H4 δ4 r ⟨t', p, k4⟩ S4 => ?_
    obtain ⟨F5, g5, S5⟩ := S4.put p
    have hy : DV c.B F5 y t' := S5.last
    have S6 := S5.drop
    obtain ⟨_, h1, h2, ac, hac, hd⟩ := S6.last
    refine ⟨ac, hac, by rw [hd.length]; exact hz, hN _ (acc ++ [t']) _ k4 ⟨F5, g5, ?_⟩⟩
    exact (S6.updT (o' := .lst (acc ++ [t'])) (u := .lst (ac ++ [y])) ⟨_, upd_same, hd.snoc hy⟩).unwipe e2
  | false =>
    obtain ⟨F3, g3, S3⟩ := S3
    exact hN _ acc _ k3 ⟨F3, g3, S3.unwipe e2⟩
theorem lc_start {σ : L2.St} {H : Hp} {ρ : List (V × SV)} {F : Hp} {gg : Addr → Option Loc} {Dl : Addr} {δ : List SV} (S : StF c F gg σ H δ ρ) (hD : H Dl = none) : ∃ g', StF c F g' σ (upd H Dl (.lst [])) (wd δ vs) (ρ ++ [(.ref Dl, .own Dl (.lst []))]) := by
  obtain ⟨g', S1, h1, h2, h3⟩ := S.newOwn (u := .lst []) hD
  have S2 := (S1.retag (l := .tmp ρ.length) h1).push (p := (.ref Dl, .own Dl (.lst []))) ⟨rfl, if_pos rfl, h3, [], upd_same, .nil⟩
  exact ⟨_, S2.unwipe rfl⟩
theorem lc_end {σ : L2.St} {H : Hp} {ρ : List (V × SV)} {Dl : Addr} {δ : List SV} {acc : List T} (S : St c σ H δ (ρ ++ [(.ref Dl, .own Dl (.lst acc))])) : St1 c σ H δ ρ (.ref Dl) (.own Dl (.lst acc)) := by
  obtain ⟨F, g, S⟩ := S
  obtain ⟨_, h1, h2, h3⟩ := S.last
  have S0 := S.drop
  refine ⟨F, fun b => if b = Dl then some .top else g b, ⟨S0.fh, S0.f0, S0.fn, S0.h0, S0.len, fun i s e => (S0.sl i s e).at Dl (by rw [h1]; intro z; cases z), fun n q e => (S0.tm n q e).at Dl (fun z => ?_), fun a l' e => ?_, S0.an, S0.tbIf h1⟩, rfl, if_pos rfl, h2, h3⟩
  · rw [h1] at z
    injection z with z; injection z with z
    have := (List.getElem?_eq_some_iff.mp e).1
    omega
  · by_cases q : a = Dl
    · rw [q]; exact S0.gn Dl _ h1
    · rw [if_neg q] at e; exact S0.gn a l' e
end
end DL

namespace DL
open PySem L2

/-! ### operators -/
section
variable {c : Cn} {δ : List SV} {Post : List SV → SV → Prop} {σ : L2.St} {H : Hp} {ρ : List (V × SV)} {x y : V}
theorem St.top2 {s1 s2 : SV} (S : St c σ H δ (ρ ++ [(x, s1)] ++ [(y, s2)])) : ∃ F g, StF c F g σ H δ ρ ∧ TempOk c F g H ρ.length (x, s1) ∧ TempOk c F g H (ρ.length + 1) (y, s2) := by
  obtain ⟨F, g, S⟩ := S
  have h := S.last
  rw [List.length_append, List.length_singleton] at h
  exact ⟨F, g, S.drop.drop, S.drop.last, h⟩
theorem St.top1 {s1 : SV} (S : St c σ H δ (ρ ++ [(x, s1)])) : ∃ F g, StF c F g σ H δ ρ ∧ TempOk c F g H ρ.length (x, s1) := by
  obtain ⟨F, g, S⟩ := S
  exact ⟨F, g, S.drop, S.last⟩
theorem St.ints {i j : Int} (S : St c σ H δ (ρ ++ [(x, SV.d (.int i))] ++ [(y, SV.d (.int j))])) : x = .int i ∧ y = .int j ∧ St c σ H δ ρ := by
  obtain ⟨F, g, S, h1, h2⟩ := S.top2
  exact ⟨DV.int_ (B := c.B) (F := F) h1, DV.int_ (B := c.B) (F := F) h2, F, g, S⟩
theorem St.strs {i j : Str} (S : St c σ H δ (ρ ++ [(x, SV.d (.str i))] ++ [(y, SV.d (.str j))])) : x = .str i ∧ y = .str j ∧ St c σ H δ ρ := by
  obtain ⟨F, g, S, h1, h2⟩ := S.top2
  exact ⟨DV.str_ (B := c.B) (F := F) h1, DV.str_ (B := c.B) (F := F) h2, F, g, S⟩
theorem o2_I0 {f : Int → Int → V} {i j : Int} {t : T} (hf : flat (f i j) t) (k : Post δ (.d t)) : OP2 c (rI0 f) δ (.d (.int i)) (.d (.int j)) Post := fun σ H ρ x y Q S q => by
  obtain ⟨e1, e2, S'⟩ := S.ints
  exact ⟨i, j, e1, e2, q _ H δ _ k (S'.flat hf)⟩
theorem o2_I {C : Int → Int → Prop} {f : Int → Int → V} {i j : Int} {t : T} (hc : C i j) (hf : flat (f i j) t) (k : Post δ (.d t)) : OP2 c (rI C f) δ (.d (.int i)) (.d (.int j)) Post := fun σ H ρ x y Q S q => by
  obtain ⟨e1, e2, S'⟩ := S.ints
  exact ⟨i, j, e1, e2, hc, q _ H δ _ k (S'.flat hf)⟩
/-! ### + of ints, texts, lists, tuples: one rule -/
def rStr : R2 := fun x y H Q => ∃ i j, x = .str i ∧ y = .str j ∧ i.length + j.length ≤ sizeLine ∧ Q (.str (i ++ j)) H
def uAdd (K : PySem.W.Frag) : R2 := fun x y H Q => rI0 (fun i j => .int (i + j)) x y H Q ∨ rStr x y H Q ∨ rCat x y H Q ∨ rCatT K x y H Q
theorem op_uAdd {X : Cx} : OpR X (binaryOp .Add) (uAdd X.K) := op_add.or (op_add_str.or (op_cat.or op_catT))
theorem o2_addI {i j : Int} (k : Post δ (.d (.int (i + j)))) : OP2 c (uAdd c.B.K) δ (.d (.int i)) (.d (.int j)) Post := fun σ H ρ x y Q S q => .inl (o2_I0 (f := fun i j => .int (i + j)) (t := .int (i + j)) rfl k σ H ρ x y Q S q)
theorem o2_addS {i j : Str} (hz : i.length + j.length ≤ sizeLine) (k : Post δ (.d (.str (i ++ j)))) : OP2 c (uAdd c.B.K) δ (.d (.str i)) (.d (.str j)) Post := fun σ H ρ x y Q S q => by
  obtain ⟨e1, e2, S'⟩ := S.strs
  exact .inr (.inl ⟨i, j, e1, e2, hz, q _ H δ _ k (S'.flat (t := .str (i ++ j)) rfl)⟩)
theorem StF.lst {F : Hp} {g : Addr → Option Loc} {n : Nat} {ts : List T} (S : StF c F g σ H δ ρ) (h : TempOk c F g H n (x, SV.d (.lst ts))) : ∃ a xs, x = .ref a ∧ H a = some (.lst xs) ∧ DVs c.B F xs ts := by
  have h : DV c.B F x (.lst ts) := h
  simp only [DV] at h
  obtain ⟨a, xs, e, h1, h2⟩ := h
  exact ⟨a, xs, e, S.fh _ _ h1, h2⟩
theorem StF.tup {F : Hp} {g : Addr → Option Loc} {n : Nat} {ts : List T} (S : StF c F g σ H δ ρ) (h : TempOk c F g H n (x, SV.d (.tup ts))) : ∃ a xs, x = .ref a ∧ SqT c.B.K H a xs ∧ DVs c.B F xs ts := by
  have h : DV c.B F x (.tup ts) := h
  simp only [DV] at h
  obtain ⟨a, xs, e, h1, h2⟩ := h
  exact ⟨a, xs, e, S.fh.sqt h1, h2⟩
theorem StF.newLst {F : Hp} {g : Addr → Option Loc} {p : Addr} {xs : List V} {ts : List T} (S : StF c F g σ H δ ρ) (hp : H p = none) (h : DVs c.B F xs ts) : St1 c σ (upd H p (.lst xs)) δ ρ (.ref p) (.own p (.lst ts)) := by
  obtain ⟨g', S', hg, _, h0⟩ := S.newOwn (u := .lst xs) hp
  exact ⟨F, g', S', rfl, hg, h0, xs, upd_same, h⟩
/-- what an owned name holds -/
def Owns (δ : List SV) (a : Addr) (o : OW) : Prop := ∃ j : Nat, δ[j]? = some (SV.own a o) ∨ δ[j]? = some (SV.arg a o)
theorem StF.owned {F : Hp} {g : Addr → Option Loc} {a : Addr} {o : OW} (S : StF c F g σ H δ ρ) (h : Owns δ a o) : OwAt c.B F H a o := by
  obtain ⟨j, h | h⟩ := h
  · exact (S.sl j _ h).2.2.2
  · exact (S.sl j _ h).2.2.2
theorem NisAt.get {B : Bs} {F H : Hp} : ∀ {vs : List V} {ns : List NI} {k : Nat} {n : NI}, NisAt B F H vs ns → ns[k]? = some n → ∃ v, vs[k]? = some v ∧ NiAt B F H v n
  | [], [], _, _, _, e => by simp at e
  | [], _ :: _, _, _, q, _ => q.elim
  | _ :: _, [], _, _, q, _ => q.elim
  | v :: vs, n :: ns, 0, m, q, e => by simp at e; subst e; exact ⟨v, rfl, q.1⟩
  | v :: vs, n :: ns, k + 1, m, q, e => by
    obtain ⟨w, e1, e2⟩ := NisAt.get (k := k) q.2 (by simpa using e)
    exact ⟨w, by simpa using e1, e2⟩
theorem NisAt.len {B : Bs} {F H : Hp} : ∀ {vs : List V} {ns : List NI}, NisAt B F H vs ns → vs.length = ns.length
  | [], [], _ => rfl
  | [], _ :: _, q => q.elim
  | _ :: _, [], q => q.elim
  | v :: vs, n :: ns, q => by rw [List.length_cons, List.length_cons, q.2.len]
/-- a list that stands in an owned one -/
def InNst (δ : List SV) (b : Addr) (ts : List T) : Prop := ∃ (j : Nat) (a : Addr) (ns : List NI) (k : Nat), δ[j]? = some (SV.nst a ns) ∧ ns[k]? = some (.o b ts)
theorem StF.inNst {F : Hp} {g : Addr → Option Loc} {b : Addr} {ts : List T} (S : StF c F g σ H δ ρ) (h : InNst δ b ts) : ∃ xs, H b = some (.lst xs) ∧ DVs c.B F xs ts := by
  obtain ⟨j, a, ns, k, hj, hk⟩ := h
  obtain ⟨xs, _, h2⟩ := (S.sl j _ hj).2.ls
  obtain ⟨v, _, _, ys, h3, h4⟩ := h2.get hk
  exact ⟨ys, h3, h4⟩
/-- the items of a list: data, or what a name owns -/
inductive LstV (δ : List SV) : SV → List T → Prop
  | d {ts : List T} : LstV δ (.d (.lst ts)) ts
  | o {a : Addr} {ts : List T} : Owns δ a (.lst ts) → LstV δ (.ptr a) ts
  | n {a : Addr} {ts : List T} : InNst δ a ts → LstV δ (.ptr a) ts
theorem LstV.at {F : Hp} {g : Addr → Option Loc} {n : Nat} {ts : List T} {s : SV} (l : LstV δ s ts) (S : StF c F g σ H δ ρ) (h : TempOk c F g H n (x, s)) : ∃ a xs, x = .ref a ∧ H a = some (.lst xs) ∧ DVs c.B F xs ts := by
  cases l with
  | d => exact S.lst h
  | o w => obtain ⟨xs, h1, h2⟩ := S.owned w; exact ⟨_, xs, h, h1, h2⟩
  | n w => obtain ⟨xs, h1, h2⟩ := S.inNst w; exact ⟨_, xs, h, h1, h2⟩
theorem o2_cat {s1 s2 : SV} {ts us : List T} (l1 : LstV δ s1 ts) (l2 : LstV δ s2 us) (hz : ts.length + us.length ≤ sizeLine) (k : ∀ p, Post δ (.own p (.lst (ts ++ us)))) : OP2 c (uAdd c.B.K) δ s1 s2 Post := fun σ H ρ x y Q S q => by
  obtain ⟨F, g, S2, h1, h2⟩ := S.top2
  obtain ⟨a, xs, rfl, ha, da⟩ := l1.at S2 h1
  obtain ⟨b, ys, rfl, hb, db⟩ := l2.at S2 h2
  exact .inr (.inr (.inl ⟨a, b, xs, ys, rfl, rfl, ha, hb, by rw [da.length, db.length]; exact hz, fun p hp => q _ _ δ _ (k p) (S2.newLst hp (da.append db))⟩))
/-! ### subscripts -/
theorem atI_dvs {B : Bs} {F : Hp} {xs : List V} {ts : List T} {i : Int} {t : T} (h : DVs B F xs ts) (e : atI ts i = some t) : ∃ v, atI xs i = some v ∧ DV B F v t := by
  unfold atI at e ⊢
  rw [h.length]
  cases z : ixN ts.length i with
  | none => rw [z] at e; cases e
  | some j =>
    rw [z] at e
    obtain ⟨v, e1, e2⟩ := h.get (show ts[j]? = some t from e)
    exact ⟨v, e1, e2⟩
theorem o2_ixL {s : SV} {ts : List T} {i : Int} {t : T} (l : LstV δ s ts) (e : atI ts i = some t) (k : Post δ (.d t)) : OP2 c (rIx c.B.K) δ s (.d (.int i)) Post := fun σ H ρ x y Q S q => by
  obtain ⟨F, g, S2, h1, h2⟩ := S.top2
  obtain ⟨a, xs, rfl, ha, da⟩ := l.at S2 h1
  obtain ⟨v, e1, hv⟩ := atI_dvs da e
  exact .inl ⟨a, xs, i, v, rfl, DV.int_ (B := c.B) (F := F) h2, SqL.of ha, e1, q _ _ δ _ k ⟨F, g, S2, hv⟩⟩
theorem o2_ixR {ts : List T} {i : Int} {t : T} (e : atI ts i = some t) (k : Post δ (.d t)) : OP2 c (rIx c.B.K) δ (.d (.rl ts)) (.d (.int i)) Post := fun σ H ρ x y Q S q => by
  obtain ⟨F, g, S2, h1, h2⟩ := S.top2
  have h1 : DV c.B F x (.rl ts) := h1
  simp only [DV] at h1
  obtain ⟨a, xs, rfl, ha, da⟩ := h1
  obtain ⟨v, e1, hv⟩ := atI_dvs da e
  exact .inl ⟨a, xs, i, v, rfl, DV.int_ (B := c.B) (F := F) h2, S2.fh.sql ha, e1, q _ _ δ _ k ⟨F, g, S2, hv⟩⟩
theorem o2_ixT {ts : List T} {i : Int} {t : T} (e : atI ts i = some t) (k : Post δ (.d t)) : OP2 c (rIx c.B.K) δ (.d (.tup ts)) (.d (.int i)) Post := fun σ H ρ x y Q S q => by
  obtain ⟨F, g, S2, h1, h2⟩ := S.top2
  obtain ⟨a, xs, rfl, ha, da⟩ := S2.tup h1
  obtain ⟨v, e1, hv⟩ := atI_dvs da e
  exact .inr (.inl ⟨a, xs, i, v, rfl, DV.int_ (B := c.B) (F := F) h2, ha, e1, q _ _ δ _ k ⟨F, g, S2, hv⟩⟩)
theorem o2_ixS {z : Str} {i : Int} {n : Nat} (hz : z.length ≤ sizeLine) (e : atI z.cps.toList i = some n) (k : Post δ (.d (.str ⟨#[n]⟩))) : OP2 c (rIx c.B.K) δ (.d (.str z)) (.d (.int i)) Post := fun σ H ρ x y Q S q => by
  obtain ⟨F, g, S2, h1, h2⟩ := S.top2
  exact .inr (.inr ⟨z, i, n, DV.str_ (B := c.B) (F := F) h1, DV.int_ (B := c.B) (F := F) h2, hz, e, q _ _ δ _ k (St.flat ⟨F, g, S2⟩ (t := .str ⟨#[n]⟩) rfl)⟩)
/-! ### == and != of data -/
theorem o2_eq {t u : T} {d e : PyData} (h1 : t.py = some d) (h2 : u.py = some e) (s1 : SeqAt.shaped d = true) (s2 : SeqAt.shaped e = true) {b : Bool} (hb : PyData.eqv d e = b) (k : Post δ (.d (.bl b))) : OP2 c (rEqD c.B.K) δ (.d t) (.d u) Post := fun σ H ρ x y Q S q => by
  obtain ⟨F, g, S2, q1, q2⟩ := S.top2
  exact ⟨d, e, Dp.mono S2.fh d x (DV.dp t x d q1 h1), Dp.mono S2.fh e y (DV.dp u y e q2 h2), s1, s2, by rw [hb]; exact q _ _ δ _ k (St.flat ⟨F, g, S2⟩ (t := .bl b) rfl)⟩
theorem o2_ne {t u : T} {d e : PyData} (h1 : t.py = some d) (h2 : u.py = some e) (s1 : SeqAt.shaped d = true) (s2 : SeqAt.shaped e = true) {b : Bool} (hb : PyData.eqv d e = b) (k : Post δ (.d (.bl (!b)))) : OP2 c (rNeD c.B.K) δ (.d t) (.d u) Post := fun σ H ρ x y Q S q => by
  obtain ⟨F, g, S2, q1, q2⟩ := S.top2
  exact ⟨d, e, Dp.mono S2.fh d x (DV.dp t x d q1 h1), Dp.mono S2.fh e y (DV.dp u y e q2 h2), s1, s2, by rw [hb]; exact q _ _ δ _ k (St.flat ⟨F, g, S2⟩ (t := .bl (!b)) rfl)⟩
/-! ### is None -/
theorem o2_isN {t : T} {b : Bool} (hb : ∀ B F v, DV B F v t → decide (v = .non) = b) (k : Post δ (.d (.bl b))) : OP2 c (fun x y H Q => y = .non ∧ Q (.bl (decide (x = .non))) H) δ (.d t) (.d .non) Post := fun σ H ρ x y Q S q => by
  obtain ⟨F, g, S2, q1, q2⟩ := S.top2
  exact ⟨DV.non_ (B := c.B) (F := F) q2, by rw [hb c.B F x q1]; exact q _ _ δ _ k (St.flat ⟨F, g, S2⟩ (t := .bl b) rfl)⟩
theorem o2_notN {t : T} {b : Bool} (hb : ∀ B F v, DV B F v t → decide (v = .non) = b) (k : Post δ (.d (.bl (!b)))) : OP2 c (fun x y H Q => y = .non ∧ Q (.bl (!decide (x = .non))) H) δ (.d t) (.d .non) Post := fun σ H ρ x y Q S q => by
  obtain ⟨F, g, S2, q1, q2⟩ := S.top2
  exact ⟨DV.non_ (B := c.B) (F := F) q2, by rw [hb c.B F x q1]; exact q _ _ δ _ k (St.flat ⟨F, g, S2⟩ (t := .bl (!b)) rfl)⟩
/-! ### len, int, abs, max, min -/
theorem St.arg1 {s : SV} {vs : List V} (hl : vs.length = [s].length) (S : St c σ H δ (ρ ++ vs.zip [s])) : ∃ v, vs = [v] ∧ St c σ H δ (ρ ++ [(v, s)]) := by
  match vs, hl, S with
  | [v], _, S => exact ⟨v, rfl, S⟩
theorem St.arg2 {s s' : SV} {vs : List V} (hl : vs.length = [s, s'].length) (S : St c σ H δ (ρ ++ vs.zip [s, s'])) : ∃ v v', vs = [v, v'] ∧ St c σ H δ (ρ ++ [(v, s)] ++ [(v', s')]) := by
  match vs, hl, S with
  | [v, v'], _, S => exact ⟨v, v', rfl, by rw [List.append_assoc]; exact S⟩
def rLen (K : PySem.W.Frag) : List V → Hp → VK → Prop := fun xs H Q => ∃ x n, xs = [x] ∧ LenV K x H n ∧ Q (.int n) H
theorem oa_lenL {s : SV} {ts : List T} (l : LstV δ s ts) (k : Post δ (.d (.int ts.length))) : OPA c (rLen c.B.K) δ [s] Post := fun σ H ρ vs Q hl S q => by
  obtain ⟨v, rfl, S⟩ := S.arg1 hl
  obtain ⟨F, g, S2, h⟩ := S.top1
  obtain ⟨a, xs, rfl, ha, da⟩ := l.at S2 h
  exact ⟨_, _, rfl, .inl ⟨xs, SqL.of ha, rfl⟩, by rw [da.length]; exact q _ _ δ _ k (St.flat ⟨F, g, S2⟩ (t := .int ts.length) rfl)⟩
theorem oa_lenR {ts : List T} (k : Post δ (.d (.int ts.length))) : OPA c (rLen c.B.K) δ [.d (.rl ts)] Post := fun σ H ρ vs Q hl S q => by
  obtain ⟨v, rfl, S⟩ := S.arg1 hl
  obtain ⟨F, g, S2, h⟩ := S.top1
  have h : DV c.B F v (.rl ts) := h
  simp only [DV] at h
  obtain ⟨a, xs, rfl, ha, da⟩ := h
  exact ⟨_, _, rfl, .inl ⟨xs, S2.fh.sql ha, rfl⟩, by rw [da.length]; exact q _ _ δ _ k (St.flat ⟨F, g, S2⟩ (t := .int ts.length) rfl)⟩
theorem oa_lenT {ts : List T} (k : Post δ (.d (.int ts.length))) : OPA c (rLen c.B.K) δ [.d (.tup ts)] Post := fun σ H ρ vs Q hl S q => by
  obtain ⟨v, rfl, S⟩ := S.arg1 hl
  obtain ⟨F, g, S2, h⟩ := S.top1
  obtain ⟨a, xs, rfl, ha, da⟩ := S2.tup h
  exact ⟨_, _, rfl, .inr ⟨xs, ha, rfl⟩, by rw [da.length]; exact q _ _ δ _ k (St.flat ⟨F, g, S2⟩ (t := .int ts.length) rfl)⟩
theorem oa_lenS {z : Str} (hz : z.length ≤ sizeLine) (k : Post δ (.d (.int z.length))) : OPA c (rLen c.B.K) δ [.d (.str z)] Post := fun σ H ρ vs Q hl S q => by
  obtain ⟨v, rfl, S⟩ := S.arg1 hl
  obtain ⟨F, g, S2, h⟩ := S.top1
  have h : v = .str z := DV.str_ (B := c.B) (F := F) h
  subst h
  exact ⟨_, _, rfl, ⟨hz, rfl⟩, q _ _ δ _ k (St.flat ⟨F, g, S2⟩ (t := .int z.length) rfl)⟩
def rInt1 : List V → Hp → VK → Prop := fun xs H Q => (∃ i, xs = [.int i] ∧ Q (.int i) H) ∨ ∃ k, xs = [.bl k] ∧ Q (.int (if k then 1 else 0)) H
theorem oa_intI {i : Int} (k : Post δ (.d (.int i))) : OPA c rInt1 δ [.d (.int i)] Post := fun σ H ρ vs Q hl S q => by
  obtain ⟨v, rfl, S⟩ := S.arg1 hl
  obtain ⟨F, g, S2, h⟩ := S.top1
  have h : v = .int i := DV.int_ (B := c.B) (F := F) h
  subst h
  exact .inl ⟨i, rfl, q _ _ δ _ k (St.flat ⟨F, g, S2⟩ (t := .int i) rfl)⟩
theorem oa_intB {b : Bool} (k : Post δ (.d (.int (if b then 1 else 0)))) : OPA c rInt1 δ [.d (.bl b)] Post := fun σ H ρ vs Q hl S q => by
  obtain ⟨v, rfl, S⟩ := S.arg1 hl
  obtain ⟨F, g, S2, h⟩ := S.top1
  have h : v = .bl b := DV.bl_ (B := c.B) (F := F) h
  subst h
  exact .inr ⟨b, rfl, q _ _ δ _ k (St.flat ⟨F, g, S2⟩ (t := .int (if b then 1 else 0)) rfl)⟩
def rAbs1 : List V → Hp → VK → Prop := fun xs H Q => ∃ i, xs = [.int i] ∧ Q (.int (if i < 0 then -i else i)) H
theorem oa_abs {i : Int} (k : Post δ (.d (.int (if i < 0 then -i else i)))) : OPA c rAbs1 δ [.d (.int i)] Post := fun σ H ρ vs Q hl S q => by
  obtain ⟨v, rfl, S⟩ := S.arg1 hl
  obtain ⟨F, g, S2, h⟩ := S.top1
  have h : v = .int i := DV.int_ (B := c.B) (F := F) h
  subst h
  exact ⟨i, rfl, q _ _ δ _ k (St.flat ⟨F, g, S2⟩ (t := .int (if i < 0 then -i else i)) rfl)⟩
def rTwo (f : Int → Int → Int) : List V → Hp → VK → Prop := fun xs H Q => ∃ i j, xs = [.int i, .int j] ∧ Q (.int (f i j)) H
theorem oa_two {f : Int → Int → Int} {i j : Int} (k : Post δ (.d (.int (f i j)))) : OPA c (rTwo f) δ [.d (.int i), .d (.int j)] Post := fun σ H ρ vs Q hl S q => by
  obtain ⟨v, v', e, S2⟩ := S.arg2 hl
  obtain ⟨e1, e2, S3⟩ := S2.ints
  exact ⟨i, j, by rw [e, e1, e2], q _ _ δ _ k (S3.flat (t := .int (f i j)) rfl)⟩
abbrev rMax2 : List V → Hp → VK → Prop := rTwo fun i j => if j > i then j else i
abbrev rMin2 : List V → Hp → VK → Prop := rTwo fun i j => if j < i then j else i
theorem call_len' {X : Cx} : CallR X (.builtin "len") (rLen X.K) := call_len
theorem call_int1' {X : Cx} : CallR X (.type "int") rInt1 := call_int1
theorem call_abs' {X : Cx} : CallR X (.builtin "abs") rAbs1 := call_abs
theorem call_max2' {X : Cx} (hc : X.calm = true) : CallR X (.builtin "max") rMax2 := call_max2 hc
theorem call_min2' {X : Cx} (hc : X.calm = true) : CallR X (.builtin "min") rMin2 := call_min2 hc
/-! ### xs[i] = e, xs.append(e), of an owned list -/
def SetAt (δ : List SV) (a : Addr) (i : Int) (t : T) (P : List SV → Prop) : Prop := ∃ (j : Nat) (ts : List T) (n : Nat), ixN ts.length i = some n ∧
    ((δ[j]? = some (SV.own a (.lst ts)) ∧ P (δ.set j (.own a (.lst (ts.set n t))))) ∨ (δ[j]? = some (SV.arg a (.lst ts)) ∧ P (δ.set j (.arg a (.lst (ts.set n t))))))
def AppAt (δ : List SV) (a : Addr) (t : T) (P : List SV → Prop) : Prop := ∃ (j : Nat) (ts : List T), ts.length < sizeLine ∧
    ((δ[j]? = some (SV.own a (.lst ts)) ∧ P (δ.set j (.own a (.lst (ts ++ [t]))))) ∨ (δ[j]? = some (SV.arg a (.lst ts)) ∧ P (δ.set j (.arg a (.lst (ts ++ [t]))))))
theorem setO {δ : List SV} {a : Addr} {i : Int} {t : T} {P : List SV → Prop} (j : Nat) {ts : List T} {n : Nat} (h : δ[j]? = some (SV.own a (.lst ts))) (hn : ixN ts.length i = some n) (k : P (δ.set j (.own a (.lst (ts.set n t))))) : SetAt δ a i t P := ⟨j, ts, n, hn, .inl ⟨h, k⟩⟩
theorem appO {δ : List SV} {a : Addr} {t : T} {P : List SV → Prop} (j : Nat) {ts : List T} (h : δ[j]? = some (SV.own a (.lst ts))) (hz : ts.length < sizeLine) (k : P (δ.set j (.own a (.lst (ts ++ [t]))))) : AppAt δ a t P := ⟨j, ts, hz, .inl ⟨h, k⟩⟩
theorem es_append {ta te : TE} {R : DEnds} (h : EV c ta δ fun δ1 r => ∃ a, r = .ptr a ∧ (∃ ts, Owns δ1 a (.lst ts)) ∧ EV c te δ1 fun δ2 r2 => ∃ t, Pu r2 (.d t) ∧ AppAt δ2 a t R.nx) : ES c (tDrop (tBM c.B.K "list" rAppend ta (tCons te tNil))) δ R := fun σ H ρ D S M =>
  h σ H ρ _ S fun v H1 δ1 r ⟨a, e, ⟨ts0, w⟩, k⟩ S1 => by
    subst e
    obtain ⟨F1, g1, S1, e⟩ := S1
    have e : v = .ref a := e
    subst e
    obtain ⟨xs0, hx0, _⟩ := S1.owned w
    refine ⟨.inl ⟨rfl, xs0, SqL.of hx0⟩, k σ H1 (ρ ++ [(.ref a, .ptr a)]) _ (St1.pushP (a := a) ⟨F1, g1, S1, rfl⟩) fun y H2 δ2 r2 ⟨t, p, j, ts, hz, k2⟩ S2 => ?_⟩
    obtain ⟨F, g, S3⟩ := S2.put p
    have hy : DV c.B F y t := S3.last
    have S4 := S3.drop.drop
    rcases k2 with ⟨hj, k2⟩ | ⟨hj, k2⟩
    · obtain ⟨_, _, _, xs, hx, hd⟩ := S4.sl j _ hj
      exact ⟨a, xs, y, rfl, rfl, hx, by rw [hd.length]; exact hz, M.nx _ _ _ k2 ⟨F, g, S4.updO hj ⟨_, upd_same, hd.snoc hy⟩⟩⟩
    · obtain ⟨_, _, _, xs, hx, hd⟩ := S4.sl j _ hj
      exact ⟨a, xs, y, rfl, rfl, hx, by rw [hd.length]; exact hz, M.nx _ _ _ k2 ⟨F, g, S4.updA hj ⟨_, upd_same, hd.snoc hy⟩⟩⟩
end
end DL

namespace DL
open PySem L2

/-! ### defs: what they promise -/
inductive RT where
  | d (t : T) | new (o : OW)
def ResOk (B : Bs) (F' H H' : Hp) (v : V) : RT → Prop
  | .d t => DV B F' v t
  | .new o => ∃ a, v = .ref a ∧ H a = none ∧ F' a = none ∧ OwAt B F' H' a o
/-- of data: all that stood stands -/
structure AfterP (B : Bs) (F H : Hp) (v : V) (H' : Hp) (r : RT) (F' : Hp) : Prop where
  ef : Ex F F'
  fh : Ex F' H'
  fn : ∀ a o, H a = some o → F' a = F a
  eh : Ex H H'
  res : ResOk B F' H H' v r
def spP (B : Bs) (S : List T → (RT → Prop) → Prop) : Sp := fun vs H Q _ => ∃ F ts, Ex F H ∧ DVs B F vs ts ∧ ∃ P : RT → Prop, S ts P ∧ ∀ r v H' F', P r → AfterP B F H v H' r F' → Q v H'
/-- of an owned list and data: that list may change -/
structure AfterM (B : Bs) (F H : Hp) (m : Addr) (v : V) (H' : Hp) (us : OW) (r : RT) (F' : Hp) : Prop where
  ef : Ex F F'
  fh : Ex F' H'
  fn : ∀ a o, H a = some o → F' a = F a
  eh : ∀ a o, a ≠ m → H a = some o → H' a = some o
  lst : OwAt B F' H' m us
  res : ResOk B F' H H' v r
def spM (B : Bs) (S : OW → List T → (OW → RT → Prop) → Prop) : Sp := fun vs H Q _ => ∃ F m ws us ts, vs = .ref m :: ws ∧ Ex F H ∧ F m = none ∧ OwAt B F H m us ∧ DVs B F ws ts ∧
  ∃ P : OW → RT → Prop, S us ts P ∧ ∀ us' r v H' F', P us' r → AfterM B F H m v H' us' r F' → Q v H'

def RTr (P : RT → Prop) : SV → Prop
  | .d t => P (.d t)
  | .own _ o => P (.new o)
  | _ => False
def nos (n : Nat) : List SV := List.replicate n SV.no
theorem start_get {N : List Str} {vs : List V} {i : Nat} {v : V} (h : vs[i]? = some v) : (start N vs)[i]? = some (some v) := by
  unfold L2.start
  have hl := (List.getElem?_eq_some_iff.mp h).1
  rw [List.getElem?_append_left (by simpa using hl), List.getElem?_map, h]; rfl
theorem start_len {N : List Str} {vs : List V} (h : vs.length ≤ N.length) : (start N vs).length = N.length := by
  unfold L2.start; rw [List.length_append, List.length_map, List.length_replicate]; omega
section
variable {B : Bs} {F H : Hp} {N : List Str} {Q : VK} {t : TS}
/-- from a promise of data to the body's judgement -/
theorem run_P {vs : List V} {ts : List T} {P : RT → Prop} {n : Nat} (fh : Ex F H) (hd : DVs B F vs ts) (hN : N.length = ts.length + n) (q : ∀ r v H' F', P r → AfterP B F H v H' r F' → Q v H')
    (h : ES ⟨B, F, H, none, [], fun _ h => absurd h List.not_mem_nil⟩ t (ts.map .d ++ nos n) { rt := fun _ r => RTr P r, nx := fun _ => P (.d .non) }) : t { nx := fun _ H' => Q .non H', rt := Q } (start N vs) H := by
  have hvl := hd.length
  have S0 : StF ⟨B, F, H, none, [], fun _ h => absurd h List.not_mem_nil⟩ F (fun _ => none) (start N vs) H (ts.map .d ++ nos n) [] := by
    refine ⟨fh, Ex.refl F, fun _ _ _ => rfl, fun a o e _ _ => e, ?_, fun i s e => ?_, fun n p e => by simp at e, fun a l e => (by cases e), fun a e => (by cases e), fun _ h => absurd h List.not_mem_nil⟩
    · rw [start_len (by omega)]; unfold nos; rw [List.length_append, List.length_map, List.length_replicate, hN]
    · by_cases hi : i < ts.length
      · rw [List.getElem?_append_left (by simpa using hi), List.getElem?_map] at e
        obtain ⟨t, ht⟩ : ∃ t, ts[i]? = some t := ⟨ts[i], by simp [hi]⟩
        rw [ht] at e; cases e
        obtain ⟨v, e1, hv⟩ := hd.get ht
        exact ⟨v, by rw [start_get e1]; rfl, hv⟩
      · rw [List.getElem?_append_right (by simpa using hi)] at e
        have := List.mem_of_getElem? e
        have : s = .no := List.eq_of_mem_replicate this
        subst this; trivial
  refine h _ _ [] _ ⟨F, _, S0⟩ ⟨fun σ H' δ k S => ?_, fun v σ H' δ r k S => ?_, fun _ _ _ k _ => k.elim, fun _ _ _ k _ => k.elim⟩
  · obtain ⟨F', g, S⟩ := S
    exact q _ _ _ F' k ⟨S.f0, S.fh, S.fn, fun a o e => S.h0 a o e (by intro z; cases z) List.not_mem_nil, by simp only [ResOk, DV]⟩
  · obtain ⟨F', g, S, top⟩ := S
    have eh : Ex H H' := fun a o e => S.h0 a o e (by intro z; cases z) List.not_mem_nil
    cases r with
    | d t => exact q (.d t) v H' F' k ⟨S.f0, S.fh, S.fn, eh, top⟩
    | own a o =>
      obtain ⟨rfl, h1, h2, h3⟩ := top
      exact q (.new o) _ H' F' k ⟨S.f0, S.fh, S.fn, eh, a, rfl, h2, (S.gn a _ h1).1, h3⟩
    | no => exact k.elim
    | arg a o => exact k.elim
    | ptr a => exact k.elim
    | lv _ _ => exact k.elim
    | tv _ _ => exact k.elim
    | zv _ _ _ _ _ => exact k.elim
    | nst _ _ => exact k.elim
theorem run_M {ws : List V} {us : OW} {ts : List T} {m : Addr} {P : OW → RT → Prop} {n : Nat} (fh : Ex F H) (fm : F m = none) (hm : OwAt B F H m us) (hd : DVs B F ws ts) (hN : N.length = ts.length + n + 1) (q : ∀ us' r v H' F', P us' r → AfterM B F H m v H' us' r F' → Q v H')
    (h : ES ⟨B, F, H, some m, [], fun _ h => absurd h List.not_mem_nil⟩ t (.arg m us :: (ts.map .d ++ nos n)) { rt := fun δ r => ∃ us', δ[0]? = some (.arg m us') ∧ RTr (P us') r, nx := fun δ => ∃ us', δ[0]? = some (.arg m us') ∧ P us' (.d .non) }) : t { nx := fun _ H' => Q .non H', rt := Q } (start N (.ref m :: ws)) H := by
  have hvl := hd.length
  obtain ⟨u, hu⟩ := hm.some
  have S0 : StF ⟨B, F, H, some m, [], fun _ h => absurd h List.not_mem_nil⟩ F (fun b => if b = m then some (.slot 0) else none) (start N (.ref m :: ws)) H (.arg m us :: (ts.map .d ++ nos n)) [] := by
    refine ⟨fh, Ex.refl F, fun _ _ _ => rfl, fun a o e _ _ => e, ?_, fun i s e => ?_, fun n p e => by simp at e, fun a l e => ?_, fun a e => ?_, fun _ h => absurd h List.not_mem_nil⟩
    · rw [start_len (by rw [List.length_cons]; omega)]; unfold nos; rw [List.length_cons, List.length_append, List.length_map, List.length_replicate, hN]
    · cases i with
      | zero =>
        simp at e; subst e
        exact ⟨by rw [start_get (vs := .ref m :: ws) (i := 0) rfl]; rfl, if_pos rfl, rfl, hm⟩
      | succ i =>
        rw [List.getElem?_cons_succ] at e
        by_cases hi : i < ts.length
        · rw [List.getElem?_append_left (by simpa using hi), List.getElem?_map] at e
          obtain ⟨t, ht⟩ : ∃ t, ts[i]? = some t := ⟨ts[i], by simp [hi]⟩
          rw [ht] at e; cases e
          obtain ⟨v, e1, hv⟩ := hd.get ht
          exact ⟨v, by rw [start_get (vs := .ref m :: ws) (i := i + 1) (by rw [List.getElem?_cons_succ]; exact e1)]; rfl, hv⟩
        · rw [List.getElem?_append_right (by simpa using hi)] at e
          have := List.mem_of_getElem? e
          have : s = .no := List.eq_of_mem_replicate this
          subst this; trivial
    · by_cases z : a = m
      · subst z; exact ⟨fm, u, hu⟩
      · rw [if_neg z] at e; cases e
    · have e : some m = some a := e
      cases e; exact ⟨fm, ⟨u, hu⟩, u, hu⟩
  refine h _ _ [] _ ⟨F, _, S0⟩ ⟨fun σ H' δ ⟨us', hδ, k⟩ S => ?_, fun v σ H' δ r ⟨us', hδ, k⟩ S => ?_, fun _ _ _ k _ => k.elim, fun _ _ _ k _ => k.elim⟩
  · obtain ⟨F', g, S⟩ := S
    obtain ⟨_, _, _, hl⟩ := S.sl 0 _ hδ
    exact q us' _ _ _ F' k ⟨S.f0, S.fh, S.fn, fun a o n e => S.h0 a o e (fun z => n (by cases z; rfl)) List.not_mem_nil, hl, by simp only [ResOk, DV]⟩
  · obtain ⟨F', g, S, top⟩ := S
    obtain ⟨_, _, _, hl⟩ := S.sl 0 _ hδ
    have eh : ∀ a o, a ≠ m → H a = some o → H' a = some o := fun a o n e => S.h0 a o e (fun z => n (by cases z; rfl)) List.not_mem_nil
    cases r with
    | d t => exact q us' (.d t) v H' F' k ⟨S.f0, S.fh, S.fn, eh, hl, top⟩
    | own a o =>
      obtain ⟨rfl, h1, h2, h3⟩ := top
      exact q us' (.new o) _ H' F' k ⟨S.f0, S.fh, S.fn, eh, hl, a, rfl, h2, (S.gn a _ h1).1, h3⟩
    | no => exact k.elim
    | arg a o => exact k.elim
    | ptr a => exact k.elim
    | lv _ _ => exact k.elim
    | tv _ _ => exact k.elim
    | zv _ _ _ _ _ => exact k.elim
    | nst _ _ => exact k.elim
end

/-! ### calls -/
def RTp (Post : List SV → SV → Prop) (δ : List SV) : RT → Prop
  | .d t => Post δ (.d t)
  | .new o => ∀ a, Post δ (.own a o)
section
variable {c : Cn} {δ : List SV} {Post : List SV → SV → Prop} {ta : TA} {E : XK}
theorem StF.res {F g σ H ρ v H'} {r : RT} (S : StF c F g σ H' δ ρ) (hH : ∀ a, H a = none → g a = none) (h0 : ∀ a o, c.H0 a = some o → H a ≠ none) (h : ResOk c.B F H H' v r) (k : RTp Post δ r) : ∃ s, Post δ s ∧ St1 c σ H' δ ρ v s := by
  cases r with
  | d t => exact ⟨.d t, k, F, g, S, h⟩
  | new o =>
    obtain ⟨a, rfl, ha, hF, ho⟩ := h
    have hk : ∀ b l, g b = some l → (if b = a then some Loc.top else g b) = some l := fun b l h => by
      have : b ≠ a := fun q => by rw [q, hH a ha] at h; cases h
      rw [if_neg this]; exact h
    have hc : c.H0 a = none := by
      cases z : c.H0 a with
      | none => rfl
      | some o => exact absurd ha (h0 a o z)
    refine ⟨.own a o, k a, F, fun b => if b = a then some .top else g b, ⟨S.fh, S.f0, S.fn, S.h0, S.len, fun i s e => (S.sl i s e).mono (Ex.refl F) (fun b h => hk b _ h) (fun _ _ => rfl), fun n q e => (S.tm n q e).mono (Ex.refl F) (fun b h => hk b _ h) (fun _ _ => rfl), fun b l e => ?_, S.an, fun t ht => by
      obtain ⟨t1, t2, t3⟩ := S.tb t ht
      have n : t ≠ a := fun y => by
        obtain ⟨o, q⟩ := c.ts t ht
        exact h0 t o q (by rw [y]; exact ha)
      exact ⟨t1, t2, (if_neg n).trans t3⟩⟩, rfl, if_pos rfl, hc, ho⟩
    by_cases q : b = a
    · subst q; exact ⟨hF, ho.some⟩
    · rw [if_neg q] at e; exact S.gn b l e
theorem StF.h0n {F g σ H ρ} (S : StF c F g σ H δ ρ) : ∀ a o, c.H0 a = some o → H a ≠ none := fun a o e z => by
  obtain ⟨u, hu⟩ := S.here e
  rw [z] at hu; cases hu
theorem StF.gnone {F g σ H ρ} (S : StF c F g σ H δ ρ) : ∀ a, H a = none → g a = none := fun a z => by
  cases q : g a with
  | none => rfl
  | some l =>
    obtain ⟨_, u, hu⟩ := S.gn a l q
    rw [z] at hu; cases hu
/-- a call of a def of data -/
theorem ev_callP {S : List T → (RT → Prop) → Prop} (h : EVA c ta δ fun δ1 rs => ∃ ts, rs = ts.map .d ∧ ∃ P : RT → Prop, S ts P ∧ ∀ r, P r → RTp Post δ1 r) : EV c (tCall (spP c.B S) [] E ta) δ Post := fun σ H ρ Q S0 q =>
  h σ H ρ _ S0 fun vs H1 δ1 rs ⟨ts, e, P, hS, k⟩ hl S1 => by
    subst e
    obtain ⟨F, g, S2, hd⟩ := S1.args hl
    refine ⟨F, ts, S2.fh, by rw [List.append_nil]; exact hd, P, hS, fun r v H' F' hp A => ?_⟩
    obtain ⟨s, k2, S3⟩ := (S2.grow A.eh A.ef A.fh A.fn).res S2.gnone S2.h0n A.res (k r hp)
    exact q v H' δ1 s k2 S3
/-- a call of a def of an owned list and data -/
theorem ev_callM {S : OW → List T → (OW → RT → Prop) → Prop} (h : EVA c ta δ fun δ1 rs => ∃ a ts, rs = .ptr a :: ts.map .d ∧ ∃ (j : Nat) (us : OW) (P : OW → RT → Prop), S us ts P ∧
    ((δ1[j]? = some (SV.own a us) ∧ ∀ us' r, P us' r → RTp Post (δ1.set j (.own a us')) r) ∨ (δ1[j]? = some (SV.arg a us) ∧ ∀ us' r, P us' r → RTp Post (δ1.set j (.arg a us')) r))) : EV c (tCall (spM c.B S) [] E ta) δ Post := fun σ H ρ Q S0 q =>
  h σ H ρ _ S0 fun vs H1 δ1 rs ⟨a, ts, e, j, us, P, hS, k⟩ hl S1 => by
    subst e
    match vs, hl, S1 with
    | v0 :: ws, hl, S1 =>
    have S1 : St c σ H1 δ1 (ρ ++ (v0, .ptr a) :: ws.zip (ts.map SV.d)) := S1
    rw [show ρ ++ (v0, SV.ptr a) :: ws.zip (ts.map SV.d) = (ρ ++ [(v0, .ptr a)]) ++ ws.zip (ts.map SV.d) by simp] at S1
    obtain ⟨F, g, S2, hd⟩ := S1.args (by simpa using hl)
    have e : v0 = .ref a := S2.last
    subst e
    have S3 := S2.drop
    have own : g a = g a ∧ F a = none ∧ OwAt c.B F H1 a us := by
      rcases k with ⟨hj, _⟩ | ⟨hj, _⟩
      · obtain ⟨_, h1, h2, h3⟩ := S3.sl j _ hj; exact ⟨rfl, (S3.gn a _ h1).1, h3⟩
      · obtain ⟨_, h1, h2, h3⟩ := S3.sl j _ hj; exact ⟨rfl, (S3.gn a _ h1).1, h3⟩
    obtain ⟨_, fa, ho⟩ := own
    obtain ⟨u0, hx⟩ := ho.some
    refine ⟨F, a, ws, us, ts, by rw [List.append_nil], S3.fh, fa, ho, hd, P, hS, fun us' r v H' F' hp A => ?_⟩
    -- the heap with the list as it was
    obtain ⟨u1, hy⟩ := A.lst.some
    have fa' : F' a = none := by rw [A.fn a _ hx]; exact fa
    let H2 : Hp := fun b => if b = a then H1 a else H' b
    have e2a : H2 a = H1 a := if_pos rfl
    have e2n : ∀ b, b ≠ a → H2 b = H' b := fun b n => if_neg n
    have eh : Ex H1 H2 := fun b o e => by
      by_cases z : b = a
      · rw [z] at e ⊢; rw [e2a]; exact e
      · rw [e2n b z]; exact A.eh b o z e
    have fh : Ex F' H2 := fun b o e => by
      by_cases z : b = a
      · rw [z, fa'] at e; cases e
      · rw [e2n b z]; exact A.fh b o e
    have S4 := S3.grow eh A.ef fh A.fn
    have eU : upd H2 a u1 = H' := by
      funext b
      by_cases z : b = a
      · rw [z, upd_same, hy]
      · rw [upd_ne z, e2n b z]
    have res : ResOk c.B F' H1 H' v r := A.res
    rcases k with ⟨hj, k⟩ | ⟨hj, k⟩
    · have S5 := S4.updO (o' := us') (u := u1) hj (A.lst.mono (Ex.refl F') (by rw [eU]))
      rw [eU] at S5
      obtain ⟨s, k2, S6⟩ := S5.res S3.gnone S3.h0n res (k us' r hp)
      exact q v H' _ s k2 S6
    · have S5 := S4.updA (o' := us') (u := u1) hj (A.lst.mono (Ex.refl F') (by rw [eU]))
      rw [eU] at S5
      obtain ⟨s, k2, S6⟩ := S5.res S3.gnone S3.h0n res (k us' r hp)
      exact q v H' _ s k2 S6
end
end DL

namespace DL
open PySem L2
/-! ### universal operators -/
def rLtS : R2 := fun x y H Q => ∃ i j, x = .str i ∧ y = .str j ∧ Q (.bl (decide (i.cps.toList < j.cps.toList))) H
def rLeS : R2 := fun x y H Q => ∃ i j, x = .str i ∧ y = .str j ∧ Q (.bl (!decide (j.cps.toList < i.cps.toList))) H
def rGtS : R2 := fun x y H Q => ∃ i j, x = .str i ∧ y = .str j ∧ Q (.bl (decide (j.cps.toList < i.cps.toList))) H
def rGeS : R2 := fun x y H Q => ∃ i j, x = .str i ∧ y = .str j ∧ Q (.bl (!decide (i.cps.toList < j.cps.toList))) H
def uLt : R2 := fun x y H Q => rI0 (fun i j => .bl (decide (i < j))) x y H Q ∨ rLtS x y H Q
def uLe : R2 := fun x y H Q => rI0 (fun i j => .bl (decide (i ≤ j))) x y H Q ∨ rLeS x y H Q
def uGt : R2 := fun x y H Q => rI0 (fun i j => .bl (decide (j < i))) x y H Q ∨ rGtS x y H Q
def uGe : R2 := fun x y H Q => rI0 (fun i j => .bl (decide (j ≤ i))) x y H Q ∨ rGeS x y H Q
section
variable {X : Cx}
theorem op_uLt : OpR X (compareOp .Lt) uLt := op_lt.or op_lt_str
theorem op_uLe : OpR X (compareOp .LtE) uLe := op_le.or op_le_str
theorem op_uGt : OpR X (compareOp .Gt) uGt := op_gt.or op_gt_str
theorem op_uGe : OpR X (compareOp .GtE) uGe := op_ge.or op_ge_str
end
def rMulS : R2 := fun x y H Q => ∃ z n, x = .str z ∧ y = .int n ∧ MulOk z n ∧ Q (.str (Txt.mul z n)) H
theorem op_mulS {X : Cx} : OpR X (binaryOp .Mult) rMulS := by
  intro pins s σ H x y v u Q I rx ry h
  obtain ⟨z, n, rfl, rfl, hc, q⟩ := h
  obtain ⟨t, rfl⟩ := rx
  obtain ⟨t', rfl⟩ := ry
  exact PySem.SB.mul hc fun t' k => ⟨.str _, H, I.tok k, ⟨t', rfl⟩, q⟩
def uMul : R2 := fun x y H Q => rI CMul (fun i j => .int (i * j)) x y H Q ∨ rMulS x y H Q
theorem op_uMul {X : Cx} : OpR X (binaryOp .Mult) uMul := op_mul.or op_mulS
section
variable {c : Cn} {δ : List SV} {Post : List SV → SV → Prop} {i j : Int} {z y : Str}
theorem o2_ltI (k : Post δ (.d (.bl (decide (i < j))))) : OP2 c uLt δ (.d (.int i)) (.d (.int j)) Post := fun σ H ρ x y Q S q => .inl (o2_I0 (f := fun i j => .bl (decide (i < j))) (t := .bl (decide (i < j))) rfl k σ H ρ x y Q S q)
theorem o2_leI (k : Post δ (.d (.bl (decide (i ≤ j))))) : OP2 c uLe δ (.d (.int i)) (.d (.int j)) Post := fun σ H ρ x y Q S q => .inl (o2_I0 (f := fun i j => .bl (decide (i ≤ j))) (t := .bl (decide (i ≤ j))) rfl k σ H ρ x y Q S q)
theorem o2_gtI (k : Post δ (.d (.bl (decide (j < i))))) : OP2 c uGt δ (.d (.int i)) (.d (.int j)) Post := fun σ H ρ x y Q S q => .inl (o2_I0 (f := fun i j => .bl (decide (j < i))) (t := .bl (decide (j < i))) rfl k σ H ρ x y Q S q)
theorem o2_geI (k : Post δ (.d (.bl (decide (j ≤ i))))) : OP2 c uGe δ (.d (.int i)) (.d (.int j)) Post := fun σ H ρ x y Q S q => .inl (o2_I0 (f := fun i j => .bl (decide (j ≤ i))) (t := .bl (decide (j ≤ i))) rfl k σ H ρ x y Q S q)
theorem o2_ltS (k : Post δ (.d (.bl (decide (z.cps.toList < y.cps.toList))))) : OP2 c uLt δ (.d (.str z)) (.d (.str y)) Post := fun σ H ρ x w Q S q => by
  obtain ⟨e1, e2, S2⟩ := S.strs
  exact .inr ⟨z, y, e1, e2, q _ H δ _ k (S2.flat (t := .bl (decide (z.cps.toList < y.cps.toList))) rfl)⟩
theorem o2_leS (k : Post δ (.d (.bl (!decide (y.cps.toList < z.cps.toList))))) : OP2 c uLe δ (.d (.str z)) (.d (.str y)) Post := fun σ H ρ x w Q S q => by
  obtain ⟨e1, e2, S2⟩ := S.strs
  exact .inr ⟨z, y, e1, e2, q _ H δ _ k (S2.flat (t := .bl (!decide (y.cps.toList < z.cps.toList))) rfl)⟩
theorem o2_gtS (k : Post δ (.d (.bl (decide (y.cps.toList < z.cps.toList))))) : OP2 c uGt δ (.d (.str z)) (.d (.str y)) Post := fun σ H ρ x w Q S q => by
  obtain ⟨e1, e2, S2⟩ := S.strs
  exact .inr ⟨z, y, e1, e2, q _ H δ _ k (S2.flat (t := .bl (decide (y.cps.toList < z.cps.toList))) rfl)⟩
theorem o2_mulI (hc : CMul i j) (k : Post δ (.d (.int (i * j)))) : OP2 c uMul δ (.d (.int i)) (.d (.int j)) Post := fun σ H ρ x y Q S q => .inl (o2_I (f := fun i j => .int (i * j)) (t := .int (i * j)) hc rfl k σ H ρ x y Q S q)
theorem o2_mulS (hc : MulOk z i) (k : Post δ (.d (.str (Txt.mul z i)))) : OP2 c uMul δ (.d (.str z)) (.d (.int i)) Post := fun σ H ρ x y Q S q => by
  obtain ⟨F, g, S2, h1, h2⟩ := S.top2
  exact .inr ⟨z, i, DV.str_ (B := c.B) (F := F) h1, DV.int_ (B := c.B) (F := F) h2, hc, q _ H δ _ k (St.flat ⟨F, g, S2⟩ (t := .str (Txt.mul z i)) rfl)⟩
theorem o2_sub (k : Post δ (.d (.int (i - j)))) : OP2 c (rI0 fun i j => .int (i - j)) δ (.d (.int i)) (.d (.int j)) Post := o2_I0 (t := .int (i - j)) rfl k
theorem o2_mod (hc : 0 < j) (k : Post δ (.d (.int (i % j)))) : OP2 c (rI (fun _ j => 0 < j) fun i j => .int (i % j)) δ (.d (.int i)) (.d (.int j)) Post := o2_I (t := .int (i % j)) hc rfl k
theorem o2_fdiv (hc : CDivW i j) (k : Post δ (.d (.int (i / j)))) : OP2 c (rI CDivW fun i j => .int (i / j)) δ (.d (.int i)) (.d (.int j)) Post := o2_I (t := .int (i / j)) hc rfl k
theorem o2_pow (hc : CPow i j) (k : Post δ (.d (.int (i ^ j.toNat)))) : OP2 c (rI CPow fun i j => .int (i ^ j.toNat)) δ (.d (.int i)) (.d (.int j)) Post := o2_I (t := .int (i ^ j.toNat)) hc rfl k
end
/-- a def that may be called -/
structure Cal (P : Program) (w : World) (K : PySem.W.Frag) (mg : Str → Option Value) (base : Heap) (CX : CXT) (x : Str) (k : Nat) (ps : List Str) (sp : Sp) where
  f : Addr
  fd : FuncData
  ok : FnOk P w K mg base CX k f fd ps sp
  mg : mg x = some (.ref f)
  kp : PySem.W.keepIn K (.ref f) = true
  bd : Binds K fd ps []
end DL

namespace DL
open PySem L2

/-! ### dicts whose keys are tuples -/
section
variable {X : Cx} {pins : List (Addr × Obj)} {σ : L2.St} {F H : Hp} {s : Shared}
abbrev Bx (X : Cx) : Bs := ⟨X.prog, X.w, X.K⟩
mutual
theorem DV.key (I : Inv X pins σ H s) (e : Ex F H) : ∀ (t : T) (v : V) (u : Value) (k : NestedKey), DV (Bx X) F v t → t.nk = some k → RelV v u → NestedIs s.heap k u
  | .non, _, _, _, h, hk, r => by simp only [DV] at h; subst h; simp only [T.nk] at hk; cases hk; cases r; exact .none
  | .bl b, _, _, _, h, hk, r => by simp only [DV] at h; subst h; simp only [T.nk] at hk; cases hk; cases r; exact .bool rfl
  | .int i, _, _, _, h, hk, r => by simp only [DV] at h; subst h; simp only [T.nk] at hk; cases hk; obtain ⟨t, rfl⟩ := r; exact .int i t
  | .str x, _, _, _, h, hk, r => by simp only [DV] at h; subst h; simp only [T.nk] at hk; cases hk; obtain ⟨t, rfl⟩ := r; exact .text x t
  | .tup ts, _, _, _, h, hk, r => by
    simp only [DV] at h
    obtain ⟨a, xs, rfl, h1, h2⟩ := h
    cases r
    simp only [T.nk, Option.map_eq_some_iff] at hk
    obtain ⟨ks, e1, rfl⟩ := hk
    obtain ⟨its, rv, ⟨o, ho, hc, n, hd⟩, _⟩ := I.tuple (e.sqt h1)
    exact .tup ho hc hd (by simpa using DVs.key I e ts xs its ks h2 e1 rv)
  | .lst _, _, _, _, _, hk, _ => by simp only [T.nk] at hk; cases hk
  | .rl _, _, _, _, _, hk, _ => by simp only [T.nk] at hk; cases hk
  | .raw _, _, _, _, _, hk, _ => by simp only [T.nk] at hk; cases hk
  | .fn _, _, _, _, _, hk, _ => by simp only [T.nk] at hk; cases hk
  | .obj _ _ _, _, _, _, _, hk, _ => by simp only [T.nk] at hk; cases hk
  | .dN _ _, _, _, _, _, hk, _ => by simp only [T.nk] at hk; cases hk
  | .dK _ _, _, _, _, _, hk, _ => by simp only [T.nk] at hk; cases hk
theorem DVs.key (I : Inv X pins σ H s) (e : Ex F H) : ∀ (ts : List T) (vs : List V) (us : List Value) (ks : List NestedKey), DVs (Bx X) F vs ts → T.nks ts = some ks → Vals vs us → NestedAll s.heap ks us
  | [], _, _, _, h, hk, r => by simp only [DVs] at h; subst h; simp only [T.nks] at hk; cases hk; cases r; exact .nil
  | t :: ts, _, _, _, h, hk, r => by
    simp only [DVs] at h
    obtain ⟨v, vr, rfl, h1, h2⟩ := h
    simp only [T.nks] at hk
    split at hk
    · rename_i k ks e1 e2
      cases hk
      cases r with
      | cons r1 r2 => exact .cons (DV.key I e t v _ k h1 e1 r1) (DVs.key I e ts vr _ ks h2 e2 r2)
    · cases hk
end
end
abbrev EN := NestedKey × Addr × V
def lookN (es : List EN) (k : NestedKey) : Option V := (es.find? fun e => decide (e.1 = k)).map (·.2.2)
def putN (es : List EN) (k : NestedKey) (b : Addr) (v : V) : List EN := if (lookN es k).isSome then es.map (fun e => if e.1 = k then (e.1, e.2.1, v) else e) else es ++ [(k, b, v)]
structure DNat (B : Bs) (H : Hp) (a : Addr) (es : List EN) : Prop where
  at_ : H a = some (hoN B a es)
  ks : ∃ F ts, Ex F H ∧ T.nks ts = some (es.map (·.1)) ∧ DVs B F (es.map fun e => .ref e.2.1) ts
/-- .. read, locked or not -/
structure DRead (B : Bs) (H : Hp) (a : Addr) (es : List EN) : Prop where
  at_ : Rd H a (hoN B a es)
  ks : ∃ F ts, Ex F H ∧ T.nks ts = some (es.map (·.1)) ∧ DVs B F (es.map fun e => .ref e.2.1) ts
theorem DNat.rd {B : Bs} {H : Hp} {a : Addr} {es : List EN} (d : DNat B H a es) : DRead B H a es := ⟨.inl d.at_, d.ks⟩
def KeyAt (B : Bs) (H : Hp) (y : V) (k : NestedKey) : Prop := ∃ F t, Ex F H ∧ DV B F y t ∧ t.nk = some k ∧ k.depth ≤ 8
abbrev PN : List EN → List (NestedKey × Addr × Value) → Prop := Paired fun (p : EN) (q : NestedKey × Addr × Value) => p.1 = q.1 ∧ p.2.1 = q.2.1 ∧ RelV p.2.2 q.2.2
theorem PN.look {es : List EN} {xs : List (NestedKey × Addr × Value)} (r : PN es xs) (k : NestedKey) : RelO (lookN es k) ((atKey xs k).map (·.2)) := by
  induction r with
  | nil => exact True.intro
  | @cons p q ps qs h t ih =>
    obtain ⟨h1, _, h2⟩ := h
    by_cases e : p.1 = k
    · have e' : q.1 = k := h1.symm.trans e
      have b : atKey (q :: qs) k = some q.2 := by simp [atKey, List.find?_cons, e']
      have c : lookN (p :: ps) k = some p.2.2 := by simp [lookN, List.find?_cons, e]
      rw [c, b]; exact h2
    · have e' : ¬ q.1 = k := fun z => e (h1.trans z)
      have b : atKey (q :: qs) k = atKey qs k := by simp [atKey, List.find?_cons, e']
      have c : lookN (p :: ps) k = lookN ps k := by simp [lookN, List.find?_cons, e]
      rw [c, b]; exact ih
theorem PN.put {es : List EN} {xs : List (NestedKey × Addr × Value)} (r : PN es xs) (k : NestedKey) (b : Addr) {v : V} {u : Value} (rv : RelV v u) : PN (putN es k b v) (storedH xs k b u) := by
  have e : (lookN es k).isSome = (atKey xs k).isSome := by rw [(r.look k).isSome_eq, Option.isSome_map]
  unfold putN storedH
  rw [e]
  by_cases q : (atKey xs k).isSome = true
  · rw [if_pos q, if_pos q]
    clear e q
    induction r with
    | nil => exact .nil
    | @cons p q ps qs h t ih =>
      rw [List.map_cons, List.map_cons]
      refine .cons ?_ ih
      obtain ⟨h1, h2, h3⟩ := h
      unfold putAt
      by_cases z : p.1 = k
      · rw [if_pos z, if_pos (h1.symm.trans z)]; exact ⟨h1, h2, rv⟩
      · rw [if_neg z, if_neg (fun y => z (h1.trans y))]; exact ⟨h1, h2, h3⟩
  · rw [if_neg q, if_neg q]; exact Paired.snoc r ⟨rfl, rfl, rv⟩
theorem length_putN (es : List EN) (k : NestedKey) (b : Addr) (v : V) : (putN es k b v).length ≤ es.length + 1 := by
  unfold putN
  split
  · rw [List.length_map]; omega
  · rw [List.length_append]; simp
theorem PN.keys {h : Heap} {kd : NestedKey → Addr → Prop} : ∀ {es : List EN} {xs : List (NestedKey × Addr × Value)}, PN es xs → (∀ e ∈ es, kd e.1 e.2.1) → ∀ x ∈ xs, kd x.1 x.2.1
  | _, _, .nil, _, x, hx => nomatch hx
  | _, _, .cons h t, hk, x, hx => by
    rcases List.mem_cons.mp hx with e | hx
    · subst e; rw [← h.1, ← h.2.1]; exact hk _ List.mem_cons_self
    · exact PN.keys (h := default) t (fun e he => hk e (List.mem_cons_of_mem _ he)) x hx
section
variable {X : Cx} {pins : List (Addr × Obj)} {σ : L2.St} {H : Hp} {s : Shared}
theorem keys_all {F : Hp} {h : Heap} : ∀ {es : List EN} {ts : List T} , T.nks ts = some (es.map (·.1)) → DVs (Bx X) F (es.map fun e => V.ref e.2.1) ts → ∀ e ∈ es, ∃ t, DV (Bx X) F (.ref e.2.1) t ∧ t.nk = some e.1
  | [], _, _, _, e, he => nomatch he
  | e0 :: es, [], h1, h2, e, he => by rw [List.map_cons] at h2; simp only [DVs] at h2; cases h2
  | e0 :: es, t :: ts, h1, h2, e, he => by
    rw [List.map_cons] at h2
    obtain ⟨q1, q2⟩ := h2.uncons
    rw [List.map_cons] at h1
    simp only [T.nks] at h1
    split at h1
    · rename_i k ks e1 e2
      injection h1 with h1
      injection h1 with h1 h3
      rcases List.mem_cons.mp he with z | he
      · subst z; exact ⟨t, q1, by rw [e1, h1]⟩
      · exact keys_all (h := default) (by rw [e2, h3]) q2 e he
    · cases h1
theorem dn_of {a : Addr} {es : List EN} (I : Inv X pins σ H s) (d : DRead (Bx X) H a es) : es.length ≤ sizeLine ∧ (a == sysModules) = false ∧ (∀ e ∈ es, e.1.depth ≤ 8) ∧ ∃ xs, PN es xs ∧ s.heap.DictOfH (nestedKind X.prog X.w) a xs := by
  have ok : ObjOk X.prog X.w H s.heap a (hoN (Bx X) a es) := by
    rcases d.at_ with h | ⟨o, h⟩
    · exact I.hok a _ h
    · exact (I.hok a _ h).2
  obtain ⟨⟨z, y, dp, xs, r, o, es', ep, h1, h2, h3, h4, h5⟩, _, _⟩ := ok
  obtain ⟨F, ts, e, n, dv⟩ := d.ks
  refine ⟨z, y, dp, xs, r, o, es', ep, h1, h2, h3, h4, PN.keys (h := default) (kd := fun k b => (nestedKind X.prog X.w).is s.heap k b) r (fun en he => ?_), h5⟩
  obtain ⟨t, q1, q2⟩ := keys_all (h := default) n dv en he
  exact ⟨DV.key I e t _ _ _ q1 q2 rfl, dp en he⟩
theorem key_at {y : V} {u : Value} {k : NestedKey} (I : Inv X pins σ H s) (q : KeyAt (Bx X) H y k) (r : RelV y u) : NestedIs s.heap k u ∧ k.depth ≤ 8 := by
  obtain ⟨F, t, e, h1, h2, h3⟩ := q
  exact ⟨DV.key I e t y u k h1 h2 r, h3⟩
def rNGet (B : Bs) : R2 := fun x y H Q => ∃ a es k b v, x = .ref a ∧ y = .ref b ∧ DRead B H a es ∧ KeyAt B H y k ∧ lookN es k = some v ∧ Q v H
theorem room8 {A : Around} (hu : A.units + 64 < cLine) : (nestedKind X.prog X.w).room A.in1 := by
  show A.in1.units + 8 < cLine
  have : A.in1.units = A.units + 1 := rfl
  omega
theorem ix_N (hu : X.A.units + 64 < cLine) : IxR X (rNGet (Bx X)) := by
  intro value slice pins s σ H x y v u Q I rx ry h hs
  obtain ⟨a, es, k, b, w, rfl, rfl, d, kk, e, q⟩ := h
  cases rx
  obtain ⟨k1, k2⟩ := key_at I kk ry
  cases ry
  obtain ⟨z, hd, dp, xs, r, dd⟩ := dn_of I d
  obtain ⟨w', hw, rw'⟩ := RelO.some_of (v := w) (o := (atKey xs k).map (·.2)) (by rw [← e]; exact r.look k)
  obtain ⟨p, hp, hp2⟩ := Option.map_eq_some_iff.mp hw
  refine PyProof.Rows.subscriptTail_builtinR (x := w') dd.typeIs PySem.F.slot_dict_getitem.lookup (Q := EP X pins σ Q) ?_ hs
  refine wpAny_getItem_heap (room8 hu) ⟨k1, k2⟩ dd hp ?_
  exact ⟨hp2, w, H, I.tok _, by rw [hp2]; exact rw', q⟩
/-- y in d, y not in d -/
def rNIn (B : Bs) (neg : Bool) : R2 := fun y x H Q => ∃ a es k b, x = .ref a ∧ y = .ref b ∧ DRead B H a es ∧ KeyAt B H y k ∧ Q (.bl (if neg then !(lookN es k).isSome else (lookN es k).isSome)) H
theorem op_NIn (hu : X.A.units + 64 < cLine) : OpR X (compareOp .In) (rNIn (Bx X) false) := by
  intro pins s σ H y x u v Q I ry rx h
  obtain ⟨a, es, k, b, rfl, rfl, d, kk, q⟩ := h
  cases rx
  obtain ⟨k1, k2⟩ := key_at I kk ry
  cases ry
  obtain ⟨z, hd, dp, xs, r, dd⟩ := dn_of I d
  refine wpAny_in_heap (room8 hu) ⟨k1, k2⟩ hd dd ?_
  have e := (r.look k).isSome_eq
  rw [Option.isSome_map] at e
  rw [← e]
  exact ⟨.bl _, H, I.tok _, rfl, q⟩
theorem op_NNotIn (hu : X.A.units + 64 < cLine) : OpR X (compareOp .NotIn) (rNIn (Bx X) true) := by
  intro pins s σ H y x u v Q I ry rx h
  obtain ⟨a, es, k, b, rfl, rfl, d, kk, q⟩ := h
  cases rx
  obtain ⟨k1, k2⟩ := key_at I kk ry
  cases ry
  obtain ⟨z, hd, dp, xs, r, dd⟩ := dn_of I d
  refine PyProof.Rows.wpAny_notIn_heap (room8 hu) ⟨k1, k2⟩ hd dd ?_
  have e := (r.look k).isSome_eq
  rw [Option.isSome_map] at e
  rw [← e]
  exact ⟨.bl _, H, I.tok _, rfl, q⟩
/-- d[y] = v -/
def rNSet (B : Bs) : TSet := fun x y v H Q => ∃ a es k b, x = .ref a ∧ y = .ref b ∧ DNat B H a es ∧ KeyAt B H y k ∧ es.length < sizeLine ∧ Q (upd H a (hoN B a (putN es k b v)))
theorem set_N (hu : X.A.units + 64 < cLine) : PSet X (rNSet (Bx X)) := by
  intro pins s σ H x y v ov iv uv Q I rx ry rv h
  obtain ⟨a, es, k, b, rfl, rfl, d, kk, hz, q⟩ := h
  cases rx
  obtain ⟨k1, k2⟩ := key_at I kk ry
  cases ry
  obtain ⟨z, hd, dp, xs, r, dd⟩ := dn_of I d.rd
  have hl : xs.length ≤ sizeLine := by rw [← Paired.length r]; exact z
  refine wpAny_setItem_heap (hsz := hl) (room8 hu) ⟨k1, k2⟩ dd fun h' dd' hs => ?_
  obtain ⟨o, es', ep, g1, g2, g3, g4, _, g5⟩ := dd'
  have hlen := length_putN es k b v
  have dps : ∀ e ∈ putN es k b v, e.1.depth ≤ 8 := fun e he => by
    unfold putN at he
    split at he
    · obtain ⟨e0, he0, rfl⟩ := List.mem_map.mp he
      split
      · rename_i z; show e0.1.depth ≤ 8; exact dp e0 he0
      · exact dp e0 he0
    · rcases List.mem_append.mp he with he | he
      · exact dp e he
      · rw [List.mem_singleton] at he; subst he; exact k2
  refine ⟨_, d_write I (by rw [d.at_]; exact True.intro) hs ⟨o, g1⟩ ?_, q⟩
  refine ⟨⟨by omega, hd, dps, _, r.put k b rv, o, es', ep, g1, g2, g3, g4, g5⟩, ⟨o, g1⟩, fun h1 h2 φ k => ?_⟩
  obtain ⟨q1, q2, q3, ys, q4, o', e1, e2, q5, q6⟩ := φ
  exact ⟨q1, q2, q3, ys, q4, o', e1, e2, k o' q5, q6⟩
/-- {} -/
def tDNewN (B : Bs) : TE := fun _ H Q => ∀ p, H p = none → Q (.ref p) (upd H p (hoN B p []))
theorem pe_dnewN {pos : Pos} : PE X (.Dict [] [] pos) (tDNewN (Bx X)) := ⟨fun pins s σ H Q I h =>
  wpAny_Dict_empty ⟨.ref s.heap.objs.size, _, I.laid (a := s.heap.objs.size) (o := hoN (Bx X) s.heap.objs.size []) (t' := s.toks) (fun _ _ q => Heap.get?_push_of_some _ q) (Nat.le_refl _) (by
    have g := Heap.get?_push_size s.heap (o := { cls := .type "dict", data := .dict #[] }) rfl
    refine ⟨⟨Nat.zero_le _, beq_eq_false_iff_ne.mpr (Ne.symm (Nat.ne_of_lt I.big)), ⟨fun e h => absurd h (by simp), [], Paired.nil, _, #[], 0, g, ⟨rfl, rfl, rfl⟩, rfl, rfl, List.nodup_nil⟩⟩, ⟨_, g⟩, fun h1 h2 φ k => ?_⟩
    obtain ⟨q1, q2, q3, ys, q4, o', e1, e2, q5, q6⟩ := φ
    exact ⟨q1, q2, q3, ys, q4, o', e1, e2, k o' q5, q6⟩), rfl, h _ (I.hok.fresh (Nat.le_refl _))⟩⟩
def rLenN (B : Bs) : List V → Hp → VK → Prop := fun xs H Q => ∃ a es, xs = [.ref a] ∧ DRead B H a es ∧ Q (.int es.length) H
theorem call_lenN : CallR X (.builtin "len") (rLenN (Bx X)) := by
  intro pins s σ H xs us Q I r h
  obtain ⟨a, es, rfl, d, q⟩ := h
  obtain ⟨u, rfl, rx⟩ := vals1 r
  obtain rfl : u = .ref a := rx
  obtain ⟨z, hd, dp, ys, rel, dd⟩ := dn_of I d
  have hl := Paired.length rel
  refine call_len_dictH hd dd (by rw [← hl]; rw [sizeLine_eq] at z; omega) ?_
  refine ⟨.int es.length, H, I.tok _, ⟨s.toks + 1, ?_⟩, q⟩
  rw [hl]
end
end DL

namespace DL
open PySem L2

/-- how keys of a type are written -/
structure KeyEnc (α : Type) where
  ek : α → T
  en : α → NestedKey
  nk : ∀ a, (ek a).nk = some (en a)
  inj : ∀ a b, en a = en b → a = b
  depth : ∀ a, (en a).depth ≤ 8
  tup : ∀ a, ∃ ts, ek a = .tup ts
/-- a dict as pairs, in the order of insertion -/
def getM {α β : Type} [DecidableEq α] : List (α × β) → α → Option β
  | [], _ => none
  | (k, b) :: m, a => if k = a then some b else getM m a
def putM {α β : Type} [DecidableEq α] (m : List (α × β)) (a : α) (b : β) : List (α × β) := if (getM m a).isSome then m.map (fun p => if p.1 = a then (p.1, b) else p) else m ++ [(a, b)]
def OW.N {α β : Type} (ke : KeyEnc α) (ev : β → T) (m : List (α × β)) : OW := .dN (m.map fun p => ke.ek p.1) (m.map fun p => ev p.2)
def T.N {α β : Type} (ke : KeyEnc α) (ev : β → T) (m : List (α × β)) : T := .dN (m.map fun p => ke.ek p.1) (m.map fun p => ev p.2)
section
variable {α β : Type} [DecidableEq α] {ke : KeyEnc α} {ev : β → T} {B : Bs} {F H : Hp} {a : Addr} {m : List (α × β)} {k : α}
theorem nks_map (ke : KeyEnc α) : ∀ m : List (α × β), T.nks (m.map fun p => ke.ek p.1) = some (m.map fun p => ke.en p.1)
  | [] => rfl
  | p :: m => by rw [List.map_cons, T.nks, ke.nk, nks_map ke m]; rfl
/-- what the model holds of such a dict -/
structure NAt (B : Bs) (F H : Hp) (a : Addr) (ke : KeyEnc α) (ev : β → T) (m : List (α × β)) (es : List EN) : Prop where
  d : DRead B H a es
  k : es.map (·.1) = m.map fun p => ke.en p.1
  r : DVs B F (es.map fun e => .ref e.2.1) (m.map fun p => ke.ek p.1)
  v : DVs B F (es.map fun e => e.2.2) (m.map fun p => ev p.2)
theorem NAt.of {es : List EN} (e : Ex F H) (h1 : H a = some (hoN B a es)) (h2 : T.nks (m.map fun p => ke.ek p.1) = some (es.map (·.1))) (h3 : DVs B F (es.map fun e => V.ref e.2.1) (m.map fun p => ke.ek p.1)) (h4 : DVs B F (es.map fun e => e.2.2) (m.map fun p => ev p.2)) : NAt B F H a ke ev m es := by
  rw [nks_map] at h2
  exact ⟨⟨.inl h1, F, _, e, by rw [nks_map]; exact h2, h3⟩, (Option.some.inj h2).symm, h3, h4⟩
theorem NAt.ofK {ob : Obj} {es : List EN} (e : Ex F H) (h1 : H a = some (.frz ob (hoN B a es))) (h2 : T.nks (m.map fun p => ke.ek p.1) = some (es.map (·.1))) (h3 : DVs B F (es.map fun e => V.ref e.2.1) (m.map fun p => ke.ek p.1)) (h4 : DVs B F (es.map fun e => e.2.2) (m.map fun p => ev p.2)) : NAt B F H a ke ev m es := by
  rw [nks_map] at h2
  exact ⟨⟨.inr ⟨ob, h1⟩, F, _, e, by rw [nks_map]; exact h2, h3⟩, (Option.some.inj h2).symm, h3, h4⟩
theorem look_get : ∀ {es : List EN} {m : List (α × β)}, es.map (·.1) = (m.map fun p => ke.en p.1) → DVs B F (es.map fun e => e.2.2) (m.map fun p => ev p.2) → ∀ k, (lookN es (ke.en k)).isSome = (getM m k).isSome ∧ ∀ b, getM m k = some b → ∃ v, lookN es (ke.en k) = some v ∧ DV B F v (ev b)
  | [], [], _, _, k => ⟨rfl, fun b h => by cases h⟩
  | [], _ :: _, h, _, _ => by simp at h
  | _ :: _, [], h, _, _ => by simp at h
  | e :: es, (a, b) :: m, h, hv, k => by
    rw [List.map_cons, List.map_cons] at h hv
    injection h with h1 h2
    obtain ⟨v1, v2⟩ := hv.uncons
    obtain ⟨i1, i2⟩ := look_get h2 v2 k
    by_cases z : a = k
    · have e1 : e.1 = ke.en k := by rw [h1, z]
      have q : lookN (e :: es) (ke.en k) = some e.2.2 := by simp [lookN, List.find?_cons, e1]
      have g : getM ((a, b) :: m) k = some b := by rw [getM, if_pos z]
      rw [q, g]
      exact ⟨rfl, fun b' hb => by cases hb; exact ⟨_, rfl, v1⟩⟩
    · have e1 : ¬ e.1 = ke.en k := fun y => z (ke.inj _ _ (by rw [← y, h1]))
      have q : lookN (e :: es) (ke.en k) = lookN es (ke.en k) := by simp [lookN, List.find?_cons, e1]
      have g : getM ((a, b) :: m) k = getM m k := by rw [getM, if_neg z]
      rw [q, g]
      exact ⟨i1, i2⟩
theorem put_at {es : List EN} {y : V} {b : Addr} {v : V} {x : β} (h1 : es.map (·.1) = m.map fun p => ke.en p.1) (h2 : DVs B F (es.map fun e => V.ref e.2.1) (m.map fun p => ke.ek p.1)) (h3 : DVs B F (es.map fun e => e.2.2) (m.map fun p => ev p.2))
    (hk : DV B F (.ref b) (ke.ek k)) (hv : DV B F v (ev x)) :
    (putN es (ke.en k) b v).map (·.1) = ((putM m k x).map fun p => ke.en p.1) ∧ DVs B F ((putN es (ke.en k) b v).map fun e => V.ref e.2.1) ((putM m k x).map fun p => ke.ek p.1) ∧ DVs B F ((putN es (ke.en k) b v).map fun e => e.2.2) ((putM m k x).map fun p => ev p.2) := by
  have q := (look_get h1 h3 k).1
  unfold putN putM
  rw [q]
  by_cases z : (getM m k).isSome = true
  · rw [if_pos z, if_pos z]
    clear q z
    induction es generalizing m with
    | nil =>
      cases m with
      | nil => exact ⟨rfl, .nil, .nil⟩
      | cons _ _ => simp at h1
    | cons e es ih =>
      cases m with
      | nil => simp at h1
      | cons p m =>
        rw [List.map_cons, List.map_cons] at h1 h2 h3
        injection h1 with a1 a2
        obtain ⟨b1, b2⟩ := h2.uncons
        obtain ⟨c1, c2⟩ := h3.uncons
        obtain ⟨i1, i2, i3⟩ := ih a2 b2 c2
        simp only [List.map_cons]
        by_cases z : p.1 = k
        · have e1 : e.1 = ke.en k := by rw [a1, z]
          rw [if_pos e1, if_pos z]
          exact ⟨by simp only [i1, a1], .cons b1 i2, .cons hv i3⟩
        · have e1 : ¬ e.1 = ke.en k := fun y => z (ke.inj _ _ (by rw [← y, a1]))
          rw [if_neg e1, if_neg z]
          exact ⟨by simp only [i1, a1], .cons b1 i2, .cons c1 i3⟩
  · rw [if_neg z, if_neg z]
    refine ⟨by rw [List.map_append, List.map_append, h1]; rfl, ?_, ?_⟩
    · rw [List.map_append, List.map_append]; exact h2.append (.cons hk .nil)
    · rw [List.map_append, List.map_append]; exact h3.append (.cons hv .nil)
end
/-- a dict in hand: data, or what a name owns -/
def OW.L {α β : Type} (ob : Obj) (es : List EN) (ke : KeyEnc α) (ev : β → T) (m : List (α × β)) : OW := .lk ob es (m.map fun p => ke.ek p.1) (m.map fun p => ev p.2)
inductive DctV {α β : Type} (δ : List SV) (ke : KeyEnc α) (ev : β → T) : SV → List (α × β) → Prop
  | d {m : List (α × β)} : DctV δ ke ev (.d (.N ke ev m)) m
  | o {a : Addr} {m : List (α × β)} : Owns δ a (.N ke ev m) → DctV δ ke ev (.ptr a) m
  | k {a : Addr} {ob : Obj} {es : List EN} {m : List (α × β)} : Owns δ a (.L ob es ke ev m) → DctV δ ke ev (.ptr a) m
section
variable {α β : Type} [DecidableEq α] {ke : KeyEnc α} {ev : β → T} {c : Cn} {δ : List SV} {Post : List SV → SV → Prop} {m : List (α × β)} {k : α}
theorem DctV.at {F : Hp} {g : Addr → Option Loc} {σ : L2.St} {H : Hp} {ρ : List (V × SV)} {n : Nat} {s : SV} {x : V} (l : DctV δ ke ev s m) (S : StF c F g σ H δ ρ) (h : TempOk c F g H n (x, s)) : ∃ a es, x = .ref a ∧ NAt c.B F H a ke ev m es := by
  cases l with
  | d =>
    have h : DV c.B F x (.N ke ev m) := h
    unfold T.N at h
    simp only [DV] at h
    obtain ⟨a, es, e, h1, h2, h3, h4⟩ := h
    exact ⟨a, es, e, .of S.fh (S.fh _ _ h1) h2 h3 h4⟩
  | o w =>
    have q := S.owned w
    unfold OW.N at q
    obtain ⟨es, h1, h2, h3, h4⟩ := q
    exact ⟨_, es, h, .of S.fh h1 h2 h3 h4⟩
  | k w =>
    have q := S.owned w
    unfold OW.L at q
    obtain ⟨h1, h2, h3, h4⟩ := q
    exact ⟨_, _, h, .ofK S.fh h1 h2 h3 h4⟩
theorem key_ok {F H : Hp} {B : Bs} {y : V} (e : Ex F H) (h : DV B F y (ke.ek k)) : (∃ b, y = .ref b) ∧ KeyAt B H y (ke.en k) := by
  obtain ⟨ts, q⟩ := ke.tup k
  refine ⟨?_, F, _, e, h, ke.nk k, ke.depth k⟩
  rw [q] at h
  simp only [DV] at h
  obtain ⟨a, _, e, _⟩ := h
  exact ⟨a, e⟩
theorem o2_getN {s : SV} {b : β} (l : DctV δ ke ev s m) (hb : getM m k = some b) (q : Post δ (.d (ev b))) : OP2 c (rNGet c.B) δ s (.d (ke.ek k)) Post := fun σ H ρ x y Q S qq => by
  obtain ⟨F, g, S2, h1, h2⟩ := S.top2
  obtain ⟨a, es, rfl, na⟩ := l.at S2 h1
  obtain ⟨⟨bb, rfl⟩, kk⟩ := key_ok S2.fh h2
  obtain ⟨v, e, hv⟩ := (look_get na.k na.v k).2 b hb
  exact ⟨a, es, _, bb, v, rfl, rfl, na.d, kk, e, qq _ _ δ _ q ⟨F, g, S2, hv⟩⟩
theorem o2_inN {s : SV} (l : DctV δ ke ev s m) (q : Post δ (.d (.bl (getM m k).isSome))) : OP2 c (rNIn c.B false) δ (.d (ke.ek k)) s Post := fun σ H ρ y x Q S qq => by
  obtain ⟨F, g, S2, h2, h1⟩ := S.top2
  obtain ⟨a, es, rfl, na⟩ := l.at S2 h1
  obtain ⟨⟨bb, rfl⟩, kk⟩ := key_ok S2.fh h2
  refine ⟨a, es, _, bb, rfl, rfl, na.d, kk, ?_⟩
  rw [if_neg (by decide), (look_get na.k na.v k).1]
  exact qq _ _ δ _ q (St.flat ⟨F, g, S2⟩ (t := .bl (getM m k).isSome) rfl)
theorem o2_niN {s : SV} (l : DctV δ ke ev s m) (q : Post δ (.d (.bl (!(getM m k).isSome)))) : OP2 c (rNIn c.B true) δ (.d (ke.ek k)) s Post := fun σ H ρ y x Q S qq => by
  obtain ⟨F, g, S2, h2, h1⟩ := S.top2
  obtain ⟨a, es, rfl, na⟩ := l.at S2 h1
  obtain ⟨⟨bb, rfl⟩, kk⟩ := key_ok S2.fh h2
  refine ⟨a, es, _, bb, rfl, rfl, na.d, kk, ?_⟩
  rw [if_pos rfl, (look_get na.k na.v k).1]
  exact qq _ _ δ _ q (St.flat ⟨F, g, S2⟩ (t := .bl (!(getM m k).isSome)) rfl)
theorem oa_lenN {s : SV} (l : DctV δ ke ev s m) (q : Post δ (.d (.int m.length))) : OPA c (rLenN c.B) δ [s] Post := fun σ H ρ vs Q hl S qq => by
  obtain ⟨v, rfl, S⟩ := S.arg1 hl
  obtain ⟨F, g, S2, h⟩ := S.top1
  obtain ⟨a, es, rfl, na⟩ := l.at S2 h
  refine ⟨a, es, rfl, na.d, ?_⟩
  have e : es.length = m.length := by have := congrArg List.length na.k; simpa using this
  rw [e]
  exact qq _ _ δ _ q (St.flat ⟨F, g, S2⟩ (t := .int m.length) rfl)
theorem ev_newN (ke : KeyEnc α) (ev : β → T) (q : ∀ p, Post δ (.own p (.N ke ev []))) : EV c (tDNewN c.B) δ Post := fun σ H ρ Q S qq p hp => by
  obtain ⟨F, g, S⟩ := S
  obtain ⟨g', S', hg, _, h0⟩ := S.newOwn (u := hoN c.B p []) hp
  exact qq _ _ δ _ (q p) ⟨F, g', S', rfl, hg, h0, [], upd_same, rfl, .nil, .nil⟩
end
end DL

namespace DL
open PySem L2

/-! ### dicts whose keys are numbers or texts -/
structure AtomEnc (α : Type) where
  kk : α → Key
  inj : ∀ a b, kk a = kk b → a = b
def tK : Key → T
  | .inl i => .int i
  | .inr x => .str x
theorem DV.tK {B : Bs} {F : Hp} {v : V} : ∀ {k : Key}, DV B F v (tK k) → v = kV k
  | .inl i, h => DV.int_ h
  | .inr x, h => DV.str_ h
def OW.K {α β : Type} (ke : AtomEnc α) (ev : β → T) (m : List (α × β)) : OW := .dK (m.map fun p => ke.kk p.1) (m.map fun p => ev p.2)
def T.K {α β : Type} (ke : AtomEnc α) (ev : β → T) (m : List (α × β)) : T := .dK (m.map fun p => ke.kk p.1) (m.map fun p => ev p.2)
inductive DckV {α β : Type} (δ : List SV) (ke : AtomEnc α) (ev : β → T) : SV → List (α × β) → Prop
  | d {m : List (α × β)} : DckV δ ke ev (.d (.K ke ev m)) m
  | o {a : Addr} {m : List (α × β)} : Owns δ a (.K ke ev m) → DckV δ ke ev (.ptr a) m
section
variable {α β : Type} [DecidableEq α] {ke : AtomEnc α} {ev : β → T} {B : Bs} {F H : Hp}
theorem val_get : ∀ {kvs : List (Key × V)} {m : List (α × β)}, kvs.map (·.1) = (m.map fun p => ke.kk p.1) → DVs B F (kvs.map (·.2)) (m.map fun p => ev p.2) → ∀ k, (valV kvs (ke.kk k)).isSome = (getM m k).isSome ∧ ∀ b, getM m k = some b → ∃ v, valV kvs (ke.kk k) = some v ∧ DV B F v (ev b)
  | [], [], _, _, k => ⟨rfl, fun b h => by cases h⟩
  | [], _ :: _, h, _, _ => by simp at h
  | _ :: _, [], h, _, _ => by simp at h
  | e :: es, (a, b) :: m, h, hv, k => by
    rw [List.map_cons, List.map_cons] at h hv
    injection h with h1 h2
    obtain ⟨v1, v2⟩ := hv.uncons
    obtain ⟨i1, i2⟩ := val_get h2 v2 k
    by_cases z : a = k
    · have e1 : e.1 = ke.kk k := by rw [h1, z]
      have g : getM ((a, b) :: m) k = some b := by rw [getM, if_pos z]
      rw [valV_pos e1, g]
      exact ⟨rfl, fun b' hb => by cases hb; exact ⟨_, rfl, v1⟩⟩
    · have e1 : ¬ e.1 = ke.kk k := fun y => z (ke.inj _ _ (by rw [← y, h1]))
      have g : getM ((a, b) :: m) k = getM m k := by rw [getM, if_neg z]
      rw [valV_neg e1, g]
      exact ⟨i1, i2⟩
theorem putK_at {kvs : List (Key × V)} {m : List (α × β)} {k : α} {v : V} {x : β} (h1 : kvs.map (·.1) = (m.map fun p => ke.kk p.1)) (h3 : DVs B F (kvs.map (·.2)) (m.map fun p => ev p.2)) (hv : DV B F v (ev x)) :
    (putK kvs (ke.kk k) v).map (·.1) = ((putM m k x).map fun p => ke.kk p.1) ∧ DVs B F ((putK kvs (ke.kk k) v).map (·.2)) ((putM m k x).map fun p => ev p.2) := by
  have q := (val_get h1 h3 k).1
  unfold putK putM
  rw [valV_any, q]
  by_cases z : (getM m k).isSome = true
  · rw [if_pos z, if_pos z]
    clear q z
    induction kvs generalizing m with
    | nil =>
      cases m with
      | nil => exact ⟨rfl, .nil⟩
      | cons _ _ => simp at h1
    | cons e es ih =>
      cases m with
      | nil => simp at h1
      | cons p m =>
        rw [List.map_cons, List.map_cons] at h1 h3
        injection h1 with a1 a2
        obtain ⟨c1, c2⟩ := h3.uncons
        obtain ⟨i1, i3⟩ := ih a2 c2
        simp only [List.map_cons]
        by_cases z : p.1 = k
        · have e1 : e.1 = ke.kk k := by rw [a1, z]
          rw [if_pos e1, if_pos z]
          exact ⟨by simp only [i1, a1], .cons hv i3⟩
        · have e1 : ¬ e.1 = ke.kk k := fun y => z (ke.inj _ _ (by rw [← y, a1]))
          rw [if_neg e1, if_neg z]
          exact ⟨by simp only [i1, a1], .cons c1 i3⟩
  · rw [if_neg z, if_neg z]
    refine ⟨by rw [List.map_append, List.map_append, h1]; rfl, ?_⟩
    rw [List.map_append, List.map_append]; exact h3.append (.cons hv .nil)
end
/-! ### universal readings -/
def orR (f g : R2) : R2 := fun x y H Q => f x y H Q ∨ g x y H Q
def rKGet : R2 := fun x y H Q => ∃ a kvs k v, x = .ref a ∧ H a = some (.dK kvs) ∧ y = kV k ∧ valV kvs k = some v ∧ Q v H
def rKIn (neg : Bool) : R2 := fun y x H Q => ∃ a kvs k, x = .ref a ∧ H a = some (.dK kvs) ∧ y = kV k ∧ Q (.bl (if neg then !(valV kvs k).isSome else (valV kvs k).isSome)) H
def rInS (neg : Bool) : R2 := fun x y H Q => ∃ i j, x = .str i ∧ y = .str j ∧ Q (.bl (if neg then !(!(Builtin.Str.occurrences j i 0 j.length 1).isEmpty) else !(Builtin.Str.occurrences j i 0 j.length 1).isEmpty)) H
def uIx (B : Bs) : R2 := orR (rIx B.K) (orR (rNGet B) rKGet)
def uIn (B : Bs) (neg : Bool) : R2 := orR (rIn B.K neg) (orR (rNIn B neg) (orR (rKIn neg) (rInS neg)))
def orS (f g : TSet) : TSet := fun o i v H Q => f o i v H Q ∨ g o i v H Q
def rKSet : TSet := fun o i v H Q => ∃ a kvs k, o = .ref a ∧ H a = some (.dK kvs) ∧ i = kV k ∧ kvs.length < sizeLine ∧ Q (upd H a (.dK (putK kvs k v)))
def uSet (B : Bs) : TSet := orS rSetL (orS (rNSet B) rKSet)
def orA (f g : List V → Hp → VK → Prop) : List V → Hp → VK → Prop := fun xs H Q => f xs H Q ∨ g xs H Q
def rLenK : List V → Hp → VK → Prop := fun xs H Q => ∃ a kvs, xs = [V.ref a] ∧ H a = some (.dK kvs) ∧ Q (.int kvs.length) H
def uLen (B : Bs) : List V → Hp → VK → Prop := orA (rLen B.K) (orA (rLenN B) rLenK)
section
variable {X : Cx}
theorem ix_K : IxR X rKGet := by
  intro value slice pins s σ H x y v u Q I rx ry h hs
  obtain ⟨a, kvs, k, w, rfl, ha, rfl, e, q⟩ := h
  cases rx
  obtain ⟨z, hd, vs, rel, dd⟩ := dk_of I.hok ha
  obtain ⟨w', hw, rw'⟩ := RelO.some_of (v := w) (o := valueAt vs k) (by rw [← e]; exact rel.val k)
  refine PyProof.Rows.subscriptTail_builtinR (x := w') dd.typeIs PySem.F.slot_dict_getitem.lookup (Q := EP X pins σ Q) ?_ hs
  exact wpAny_getItem_of (kV_is ry) dd.mapOf hw ⟨rfl, w, H, I.tok _, rw', q⟩
theorem ix_U (hu : X.A.units + 64 < cLine) : IxR X (uIx (Bx X)) := ix_seq.or ((ix_N hu).or ix_K)
theorem op_KIn (hu : X.A.units + 64 < cLine) : OpR X (compareOp .In) (rKIn false) := by
  intro pins s σ H y x u v Q I ry rx h
  obtain ⟨a, kvs, k, rfl, ha, rfl, q⟩ := h
  cases rx
  exact d_in (by omega) I (DGet.k ha) ry fun s' I' => ⟨.bl _, H, I', rfl, q⟩
theorem op_KNotIn (hu : X.A.units + 64 < cLine) : OpR X (compareOp .NotIn) (rKIn true) := by
  intro pins s σ H y x u v Q I ry rx h
  obtain ⟨a, kvs, k, rfl, ha, rfl, q⟩ := h
  cases rx
  exact d_notIn (by omega) I (DGet.k ha) ry fun s' I' => ⟨.bl _, H, I', rfl, q⟩
theorem op_inS : OpR X (compareOp .In) (rInS false) := op_in_str
theorem op_notInS : OpR X (compareOp .NotIn) (rInS true) := op_notIn_str
theorem op_uIn (hu : X.A.units + 64 < cLine) : OpR X (compareOp .In) (uIn (Bx X) false) := op_in_seq.or ((op_NIn hu).or ((op_KIn hu).or op_inS))
theorem op_uNotIn (hu : X.A.units + 64 < cLine) : OpR X (compareOp .NotIn) (uIn (Bx X) true) := op_notIn_seq.or ((op_NNotIn hu).or ((op_KNotIn hu).or op_notInS))
theorem PSet.or {f g : TSet} (h : PSet X f) (h' : PSet X g) : PSet X (orS f g) := by
  intro pins s σ H o i v ov iv u Q I ro ri rv q
  rcases q with q | q
  · exact h pins s σ H o i v ov iv u Q I ro ri rv q
  · exact h' pins s σ H o i v ov iv u Q I ro ri rv q
theorem set_K (hu : X.A.units + 64 < cLine) : PSet X rKSet := by
  intro pins s σ H o i v ov iv u Q I ro ri rv h
  obtain ⟨a, kvs, k, rfl, ha, rfl, hz, q⟩ := h
  cases ro
  exact d_setItem (by omega) I (DPut.k ha hz) ri rv fun s' I' => ⟨_, I', q⟩
theorem set_U (hu : X.A.units + 64 < cLine) : PSet X (uSet (Bx X)) := PSet.or set_list (PSet.or (set_N hu) (set_K hu))
theorem call_lenK : CallR X (.builtin "len") rLenK := by
  intro pins s σ H xs us Q I r h
  obtain ⟨a, kvs, rfl, ha, q⟩ := h
  obtain ⟨u, rfl, rx⟩ := vals1 r
  obtain rfl : u = .ref a := rx
  exact d_len I (.inl ha) fun t s' I' => ⟨.int kvs.length, H, I', ⟨t, rfl⟩, q⟩
theorem call_uLen : CallR X (.builtin "len") (uLen (Bx X)) := call_len'.or (call_lenN.or call_lenK)
end
section
variable {c : Cn} {δ : List SV} {Post : List SV → SV → Prop} {s1 s2 s3 : SV} {f g : R2}
theorem o2_l (h : OP2 c f δ s1 s2 Post) : OP2 c (orR f g) δ s1 s2 Post := fun σ H ρ x y Q S q => .inl (h σ H ρ x y Q S q)
theorem o2_r (h : OP2 c g δ s1 s2 Post) : OP2 c (orR f g) δ s1 s2 Post := fun σ H ρ x y Q S q => .inr (h σ H ρ x y Q S q)
theorem oa_l {f g : List V → Hp → VK → Prop} {rs : List SV} (h : OPA c f δ rs Post) : OPA c (orA f g) δ rs Post := fun σ H ρ vs Q hl S q => .inl (h σ H ρ vs Q hl S q)
theorem oa_r {f g : List V → Hp → VK → Prop} {rs : List SV} (h : OPA c g δ rs Post) : OPA c (orA f g) δ rs Post := fun σ H ρ vs Q hl S q => .inr (h σ H ρ vs Q hl S q)
/-! names of the single cases -/
theorem uix_L {ts : List T} {i : Int} {t : T} (l : LstV δ s1 ts) (e : atI ts i = some t) (k : Post δ (.d t)) : OP2 c (uIx c.B) δ s1 (.d (.int i)) Post := o2_l (o2_ixL l e k)
theorem uix_R {ts : List T} {i : Int} {t : T} (e : atI ts i = some t) (k : Post δ (.d t)) : OP2 c (uIx c.B) δ (.d (.rl ts)) (.d (.int i)) Post := o2_l (o2_ixR e k)
theorem uix_T {ts : List T} {i : Int} {t : T} (e : atI ts i = some t) (k : Post δ (.d t)) : OP2 c (uIx c.B) δ (.d (.tup ts)) (.d (.int i)) Post := o2_l (o2_ixT e k)
theorem uix_S {z : Str} {i : Int} {n : Nat} (hz : z.length ≤ sizeLine) (e : atI z.cps.toList i = some n) (k : Post δ (.d (.str ⟨#[n]⟩))) : OP2 c (uIx c.B) δ (.d (.str z)) (.d (.int i)) Post := o2_l (o2_ixS hz e k)
theorem ulen_L {ts : List T} (l : LstV δ s1 ts) (k : Post δ (.d (.int ts.length))) : OPA c (uLen c.B) δ [s1] Post := oa_l (oa_lenL l k)
theorem ulen_R {ts : List T} (k : Post δ (.d (.int ts.length))) : OPA c (uLen c.B) δ [.d (.rl ts)] Post := oa_l (oa_lenR k)
theorem ulen_T {ts : List T} (k : Post δ (.d (.int ts.length))) : OPA c (uLen c.B) δ [.d (.tup ts)] Post := oa_l (oa_lenT k)
theorem ulen_S {z : Str} (hz : z.length ≤ sizeLine) (k : Post δ (.d (.int z.length))) : OPA c (uLen c.B) δ [.d (.str z)] Post := oa_l (oa_lenS hz k)
section
variable {α β : Type} [DecidableEq α] {ke : KeyEnc α} {ka : AtomEnc α} {ev : β → T} {m : List (α × β)} {k : α}
theorem uix_N {b : β} (l : DctV δ ke ev s1 m) (hb : getM m k = some b) (q : Post δ (.d (ev b))) : OP2 c (uIx c.B) δ s1 (.d (ke.ek k)) Post := o2_r (o2_l (o2_getN l hb q))
theorem uin_N (l : DctV δ ke ev s1 m) (q : Post δ (.d (.bl (getM m k).isSome))) : OP2 c (uIn c.B false) δ (.d (ke.ek k)) s1 Post := o2_r (o2_l (o2_inN l q))
theorem uni_N (l : DctV δ ke ev s1 m) (q : Post δ (.d (.bl (!(getM m k).isSome)))) : OP2 c (uIn c.B true) δ (.d (ke.ek k)) s1 Post := o2_r (o2_l (o2_niN l q))
theorem ulen_N (l : DctV δ ke ev s1 m) (q : Post δ (.d (.int m.length))) : OPA c (uLen c.B) δ [s1] Post := oa_r (oa_l (oa_lenN l q))
theorem DckV.at {F : Hp} {g : Addr → Option Loc} {σ : L2.St} {H : Hp} {ρ : List (V × SV)} {n : Nat} {s : SV} {x : V} (l : DckV δ ka ev s m) (S : StF c F g σ H δ ρ) (h : TempOk c F g H n (x, s)) : ∃ a kvs, x = .ref a ∧ H a = some (.dK kvs) ∧ kvs.map (·.1) = (m.map fun p => ka.kk p.1) ∧ DVs c.B F (kvs.map (·.2)) (m.map fun p => ev p.2) := by
  cases l with
  | d =>
    have h : DV c.B F x (.K ka ev m) := h
    unfold T.K at h
    simp only [DV] at h
    obtain ⟨a, kvs, e, h1, h2, h3⟩ := h
    exact ⟨a, kvs, e, S.fh _ _ h1, h2, h3⟩
  | o w =>
    have q := S.owned w
    unfold OW.K at q
    obtain ⟨kvs, h1, h2, h3⟩ := q
    exact ⟨_, kvs, h, h1, h2, h3⟩
theorem uix_K {b : β} (l : DckV δ ka ev s1 m) (hb : getM m k = some b) (q : Post δ (.d (ev b))) : OP2 c (uIx c.B) δ s1 (.d (tK (ka.kk k))) Post := fun σ H ρ x y Q S qq => by
  obtain ⟨F, g, S2, h1, h2⟩ := S.top2
  obtain ⟨a, kvs, rfl, ha, hk, hv⟩ := l.at S2 h1
  obtain ⟨v, e, hv⟩ := (val_get hk hv k).2 b hb
  exact .inr (.inr ⟨a, kvs, _, v, rfl, ha, DV.tK (B := c.B) (F := F) h2, e, qq _ _ δ _ q ⟨F, g, S2, hv⟩⟩)
theorem uni_K (l : DckV δ ka ev s1 m) (q : Post δ (.d (.bl (!(getM m k).isSome)))) : OP2 c (uIn c.B true) δ (.d (tK (ka.kk k))) s1 Post := fun σ H ρ y x Q S qq => by
  obtain ⟨F, g, S2, h2, h1⟩ := S.top2
  obtain ⟨a, kvs, rfl, ha, hk, hv⟩ := l.at S2 h1
  refine .inr (.inr (.inl ⟨a, kvs, _, rfl, ha, DV.tK (B := c.B) (F := F) h2, ?_⟩))
  rw [if_pos rfl, (val_get hk hv k).1]
  exact qq _ _ δ _ q (St.flat ⟨F, g, S2⟩ (t := .bl (!(getM m k).isSome)) rfl)
theorem ulen_K (l : DckV δ ka ev s1 m) (q : Post δ (.d (.int m.length))) : OPA c (uLen c.B) δ [s1] Post := fun σ H ρ vs Q hl S qq => by
  obtain ⟨v, rfl, S⟩ := S.arg1 hl
  obtain ⟨F, g, S2, h⟩ := S.top1
  obtain ⟨a, kvs, rfl, ha, hk, hv⟩ := l.at S2 h
  refine .inr (.inr ⟨a, kvs, rfl, ha, ?_⟩)
  have e : kvs.length = m.length := by have := congrArg List.length hk; simpa using this
  rw [e]
  exact qq _ _ δ _ q (St.flat ⟨F, g, S2⟩ (t := .int m.length) rfl)
end
/-! ### o[i] = v -/
def OP3 (c : Cn) (f : TSet) (δ : List SV) (s1 s2 s3 : SV) (P : List SV → Prop) : Prop :=
  ∀ σ H ρ o i v Q, St c σ H δ (ρ ++ [(v, s3)] ++ [(o, s1)] ++ [(i, s2)]) → (∀ H' δ', P δ' → St c σ H' δ' ρ → Q H') → f o i v H Q
theorem es_sub {ta tb te : TE} {f : TSet} {R : DEnds} (h : EV c te δ fun δ1 r => ∃ s3, Pu r s3 ∧ EV c ta δ1 fun δ2 r2 => ∃ s1, Pu r2 s1 ∧ EV c tb δ2 fun δ3 r3 => ∃ s2, Pu r3 s2 ∧ OP3 c f δ3 s1 s2 s3 R.nx) : ES c (tAsg te (gSub ta tb f)) δ R := fun σ H ρ D S M =>
  h σ H ρ _ S fun v H1 δ1 r ⟨s3, p, k⟩ S1 => k σ H1 _ _ (S1.put p) fun o H2 δ2 r2 ⟨s1, p2, k2⟩ S2 => k2 σ H2 _ _ (S2.put p2) fun iv H3 δ3 r3 ⟨s2, p3, k3⟩ S3 =>
    k3 σ H3 ρ o iv v _ (S3.put p3) fun H' δ' k4 S4 => M.nx σ H' δ' k4 S4
theorem St.top3 {σ : L2.St} {H : Hp} {ρ : List (V × SV)} {o i v : V} (S : St c σ H δ (ρ ++ [(v, s3)] ++ [(o, s1)] ++ [(i, s2)])) : ∃ F g, StF c F g σ H δ ρ ∧ TempOk c F g H ρ.length (v, s3) ∧ TempOk c F g H (ρ.length + 1) (o, s1) ∧ TempOk c F g H (ρ.length + 2) (i, s2) := by
  obtain ⟨F, g, S, h1, h2⟩ := S.top2
  rw [List.length_append, List.length_singleton] at h1 h2
  exact ⟨F, g, S.drop, S.last, h1, h2⟩
variable {P : List SV → Prop} {a : Addr} {t : T}
theorem o3_A (j : Nat) {i : Int} {ts : List T} {n : Nat} (h : δ[j]? = some (SV.arg a (.lst ts))) (hn : ixN ts.length i = some n) (k : P (δ.set j (.arg a (.lst (ts.set n t))))) : OP3 c (uSet c.B) δ (.ptr a) (.d (.int i)) (.d t) P := fun σ H ρ o iv v Q S q => by
  obtain ⟨F, g, S4, hv, ho, hi⟩ := S.top3
  have ho : o = .ref a := ho
  have hv : DV c.B F v t := hv
  obtain ⟨_, _, _, xs, hx, hd⟩ := S4.sl j _ h
  exact .inl ⟨a, xs, i, n, ho, DV.int_ (B := c.B) (F := F) hi, hx, by rw [hd.length]; exact hn, q _ _ k ⟨F, g, S4.updA h ⟨_, upd_same, hd.set n hv⟩⟩⟩
section
variable {α β : Type} [DecidableEq α] {ke : KeyEnc α} {ka : AtomEnc α} {ev : β → T} {m : List (α × β)} {k : α} {x : β}
theorem o3_N (j : Nat) (h : δ[j]? = some (SV.own a (.N ke ev m))) (hz : m.length < sizeLine) (kk : P (δ.set j (.own a (.N ke ev (putM m k x))))) : OP3 c (uSet c.B) δ (.ptr a) (.d (ke.ek k)) (.d (ev x)) P := fun σ H ρ o iv v Q S q => by
  obtain ⟨F, g, S4, hv, ho, hi⟩ := S.top3
  have ho : o = .ref a := ho
  have hv : DV c.B F v (ev x) := hv
  have hi : DV c.B F iv (ke.ek k) := hi
  obtain ⟨⟨bb, rfl⟩, kat⟩ := key_ok S4.fh hi
  obtain ⟨_, _, _, qq⟩ := S4.sl j _ h
  unfold OW.N at qq
  obtain ⟨es, h1, h2, h3, h4⟩ := qq
  have na : NAt c.B F H a ke ev m es := .of S4.fh h1 h2 h3 h4
  have e : es.length = m.length := by have := congrArg List.length na.k; simpa using this
  obtain ⟨q1, q2, q3⟩ := put_at (y := v) (b := bb) (k := k) na.k na.r na.v hi hv
  exact .inr (.inl ⟨a, es, _, bb, ho, rfl, ⟨h1, na.d.ks⟩, kat, by rw [e]; exact hz, q _ _ kk ⟨F, g, S4.updO h ⟨_, upd_same, by rw [nks_map, q1], q2, q3⟩⟩⟩)
theorem o3_K (j : Nat) (h : δ[j]? = some (SV.own a (.K ka ev m))) (hz : m.length < sizeLine) (kk : P (δ.set j (.own a (.K ka ev (putM m k x))))) : OP3 c (uSet c.B) δ (.ptr a) (.d (tK (ka.kk k))) (.d (ev x)) P := fun σ H ρ o iv v Q S q => by
  obtain ⟨F, g, S4, hv, ho, hi⟩ := S.top3
  have ho : o = .ref a := ho
  have hv : DV c.B F v (ev x) := hv
  obtain ⟨_, _, _, qq⟩ := S4.sl j _ h
  unfold OW.K at qq
  obtain ⟨kvs, h1, h2, h3⟩ := qq
  have e : kvs.length = m.length := by have := congrArg List.length h2; simpa using this
  obtain ⟨q1, q2⟩ := putK_at (k := k) (v := v) (x := x) h2 h3 hv
  exact .inr (.inr ⟨a, kvs, _, ho, h1, DV.tK (B := c.B) (F := F) hi, by rw [e]; exact hz, q _ _ kk ⟨F, g, S4.updO h ⟨_, upd_same, q1, q2⟩⟩⟩)
end
end
end DL

namespace DL
open PySem L2

/-! ### sorted -/
def rSorted (B : Bs) : List V → Hp → VK → Prop := fun xs H Q => ∃ a vs ds, xs = [.ref a] ∧ SqL B.K H a vs ∧ DpAll B.K H vs ds ∧ PySem.W.AllAlike ds ∧ PySem.W.Sortable ds ∧ (∀ d ∈ ds, d.depth ≤ 64) ∧ vs.length = ds.length ∧
  ∀ p, H p = none → Q (.ref p) (upd H p (.lst (((vs.zip ds).mergeSort (PySem.W.dataLe false (fun b : V × PyData => b.2))).map (·.1))))
theorem each_zip {X : Cx} {pins : List (Addr × Obj)} {σ : L2.St} {H : Hp} {s : Shared} (I : Inv X pins σ H s) : ∀ {vs : List V} {ds : List PyData} {us : List Value}, DpAll X.K H vs ds → Vals vs us →
    PySem.W.EachIs (fun u (b : V × PyData) => RelV b.1 u) us (vs.zip ds) ∧ PySem.W.EachIs (fun u (b : V × PyData) => ∃ as, Reads s.heap u b.2 as) us (vs.zip ds)
  | _, _, _, .nil, .nil => ⟨.nil, .nil⟩
  | _, _, _, .cons h t, .cons r rs => by
    obtain ⟨q1, q2⟩ := each_zip I t rs
    exact ⟨.cons r q1, .cons (Dp.reads I _ _ _ h r) q2⟩
theorem vals_of_each : ∀ {us : List Value} {bs : List (V × PyData)}, PySem.W.EachIs (fun u (b : V × PyData) => RelV b.1 u) us bs → Vals (bs.map (·.1)) us
  | _, _, .nil => .nil
  | _, _, .cons h t => .cons h (vals_of_each t)
theorem zip_snd {α β : Type} : ∀ (xs : List α) (ys : List β), xs.length = ys.length → (xs.zip ys).map (·.2) = ys
  | [], [], _ => rfl
  | _ :: xs, _ :: ys, h => by rw [List.zip_cons_cons, List.map_cons, zip_snd xs ys (by simpa using h)]
  | [], _ :: _, h => by simp at h
  | _ :: _, [], h => by simp at h
theorem call_sorted' {X : Cx} (hu : X.A.units + 66 < cLine) : CallR X (.builtin "sorted") (rSorted (Bx X)) := by
  intro pins s σ H xs us Q I r h
  obtain ⟨a, vs, ds, rfl, hl, hd, hal, hk, hdp, hlen, q⟩ := h
  obtain ⟨u, rfl, rx⟩ := vals1 r
  obtain rfl : u = .ref a := rx
  obtain ⟨its, rv, pl, hz⟩ := I.list hl
  obtain ⟨e1, e2⟩ := each_zip I hd rv
  have em : (vs.zip ds).map (·.2) = ds := zip_snd vs ds hlen
  refine PySem.W.sorted_data (β := V × PyData) (enc := (·.2)) pl.isList e1 e2 (by rw [em]; exact hal) (by rw [em]; exact hk) (by rw [List.length_zip]; omega) (fun b hb => ?_) fun out ho eo => ?_
  · have : b.2 ∈ ds := by rw [← em]; exact List.mem_map_of_mem hb
    have := hdp _ this
    omega
  · obtain ⟨c, hc⟩ := PyProof.Rows.sortedAll_at s.heap its out.toArray
    have hlen2 : (((vs.zip ds).mergeSort (PySem.W.dataLe false (fun b : V × PyData => b.2))).map (·.1)).length ≤ sizeLine := by
      rw [List.length_map, List.length_mergeSort, List.length_zip]; omega
    have hp : H (s.heap.objs.size + 1) = none := I.hok.fresh (Nat.le_succ _)
    refine ⟨.ref (s.heap.objs.size + 1), _, I.laid (o := .lst (((vs.zip ds).mergeSort (PySem.W.dataLe false (fun b : V × PyData => b.2))).map (·.1))) (t' := s.toks) (fun _ _ => PyProof.Rows.sortedAll_old) (Nat.le_succ _) ⟨hlen2, out, c, vals_of_each eo, hc⟩, rfl, q _ hp⟩
section
variable {c : Cn} {δ : List SV} {Post : List SV → SV → Prop}
theorem pys_map {α : Type} {e : α → T} {d : α → PyData} (h : ∀ a, (e a).py = some (d a)) : ∀ xs : List α, T.pys (xs.map e) = some (xs.map d)
  | [] => rfl
  | x :: xs => by rw [List.map_cons, T.pys, h x, pys_map h xs]; rfl
theorem dvs_all {α : Type} {B : Bs} {F : Hp} {e : α → T} : ∀ zs : List (V × α), (∀ p ∈ zs, DV B F p.1 (e p.2)) → DVs B F (zs.map (·.1)) ((zs.map (·.2)).map e)
  | [], _ => .nil
  | z :: zs, h => .cons (h z List.mem_cons_self) (dvs_all zs fun p hp => h p (List.mem_cons_of_mem _ hp))
theorem all_dvs {α : Type} {B : Bs} {F : Hp} {e : α → T} : ∀ {vs : List V} {xs : List α}, DVs B F vs (xs.map e) → ∀ p ∈ vs.zip xs, DV B F p.1 (e p.2)
  | [], [], _, p, hp => by simp at hp
  | [], _ :: _, _, p, hp => by simp at hp
  | _ :: _, [], _, p, hp => by simp at hp
  | v :: vs, x :: xs, h, p, hp => by
    rw [List.map_cons] at h
    obtain ⟨h1, h2⟩ := h.uncons
    rw [List.zip_cons_cons] at hp
    rcases List.mem_cons.mp hp with e | hp
    · subst e; exact h1
    · exact all_dvs h2 p hp
theorem zip_map_snd {α β : Type} (f : α → β) : ∀ (vs : List V) (xs : List α), vs.zip (xs.map f) = (vs.zip xs).map fun p => (p.1, f p.2)
  | [], _ => rfl
  | _ :: _, [] => rfl
  | v :: vs, x :: xs => by rw [List.map_cons, List.zip_cons_cons, List.zip_cons_cons, List.map_cons, zip_map_snd f vs xs]
/-- sorted(xs): the items typed, e how they are written, d as data -/
theorem oa_sorted {α : Type} {e : α → T} (d : α → PyData) {s : SV} {xs : List α} (l : LstV δ s (xs.map e)) (hpy : ∀ a, (e a).py = some (d a)) (hal : PySem.W.AllAlike (xs.map d)) (hk : PySem.W.Sortable (xs.map d)) (hdp : ∀ a, (d a).depth ≤ 64)
    (k : ∀ p, Post δ (.own p (.lst ((xs.mergeSort fun a b => PySem.W.dataLe false d a b).map e)))) : OPA c (rSorted c.B) δ [s] Post := fun σ H ρ us Q hl S q => by
  obtain ⟨v, rfl, S⟩ := S.arg1 hl
  obtain ⟨F, g, S2, h⟩ := S.top1
  obtain ⟨a, vs, rfl, ha, dv⟩ := l.at S2 h
  have hlen : vs.length = xs.length := by rw [dv.length, List.length_map]
  refine ⟨a, vs, xs.map d, rfl, SqL.of ha, DpAll.mono S2.fh _ _ (DVs.dp _ _ _ dv (pys_map hpy xs)), hal, hk, fun y hy => ?_, by rw [hlen, List.length_map], fun p hp => ?_⟩
  · obtain ⟨z, _, rfl⟩ := List.mem_map.mp hy; exact hdp z
  · refine q _ _ δ _ (k p) (S2.newLst hp ?_)
    have e1 : (vs.zip (xs.map d)).mergeSort (PySem.W.dataLe false (fun b : V × PyData => b.2)) = ((vs.zip xs).mergeSort fun p q => PySem.W.dataLe false d p.2 q.2).map fun p => (p.1, d p.2) := by
      rw [zip_map_snd, List.map_mergeSort]
      intro a _ b _
      rfl
    have e2 : xs.mergeSort (fun a b => PySem.W.dataLe false d a b) = ((vs.zip xs).mergeSort fun p q => PySem.W.dataLe false d p.2 q.2).map (·.2) := by
      rw [List.map_mergeSort (s := fun a b => PySem.W.dataLe false d a b), zip_snd vs xs hlen]
      intro a _ b _
      rfl
    rw [e1, e2, List.map_map]
    exact dvs_all _ fun p hp => all_dvs dv p ((List.mergeSort_perm _ _).mem_iff.mp hp)
end
end DL

namespace DL
open PySem PySem.Spec PyProof.Rows L2

/-! ### dict comprehensions, whatever the kind of dict: o0 the new dict, R how it takes a pair -/
abbrev TDict := Addr → V → V → Hp → (Hp → Prop) → Prop
def tDcG (o0 : Addr → HO) (R : TDict) (wi : TI) (g : TG) (tt : TT) (tk tv : TE) (own : List Nat) : TE := fun σ H Q => wi σ H fun J H1 => ∀ D, H1 D = none →
  ∃ W : Nat → Nat → Hp → Prop, (∃ m, W 0 m (upd H1 D (o0 D))) ∧ ∀ i m H2, W i m H2 → (J.stop i H2 ∧ Q (.ref D) H2) ∨ (J.go i H2 ∧
    ∃ Nx : Hp → Prop, (∀ H', Nx H' → ∃ m', m' < m ∧ W (i + 1) m' H') ∧ ∀ x H', J.yld i H2 x H' → g x (wipe σ own) H' fun σ2 H3 => wipe σ2 own = wipe σ own ∧ tt σ2 H3 fun b H4 =>
      if b = true then tk σ2 H4 fun y H5 => tv σ2 H5 fun z H6 => R D y z H6 Nx else Nx H4)
/-- what is asked of o0 and R -/
structure DictWay (P : Program) (w : World) (K : PySem.W.Frag) (A : Around) (o0 : Addr → HO) (R : TDict) : Prop where
  new : ∀ (H : Hp) (h : Heap), sysModules < h.objs.size → ObjOk P w H (h.push { cls := .type "dict", data := .dict #[] }) h.objs.size (o0 h.objs.size)
  put : ∀ (X : Cx), X.prog = P → X.w = w → X.K = K → X.A = A → ∀ (pins : List (Addr × Obj)) (σ : L2.St) (H : Hp) (s : Shared) (E : Value → Shared → Prop) (D : Addr) (y z : V) (u r : Value) (Nx : Hp → Prop), Inv X pins σ H s → RelV y u → RelV z r → R D y z H Nx →
    wpAny (model P w) A (dictSet D u r) (fun _ s' => ∃ H', Inv X pins σ H' s' ∧ Nx H') E s
section
variable {X : Cx} {o0 : Addr → HO} {R : TDict}
theorem dcg {kx vx tg iter : Expr} {ifs : List Expr} {scope : Scope} {own : List (Str × Nat)} {pos : Pos} {wi : TI} {g : TG} {tt : TT} {tk tv : TE} (way : DictWay X.prog X.w X.K X.A o0 R)
    (calm : X.calm = true) (nd : X.N.Nodup) (pi : PI X tg iter wi) (ok : BlkOk X.N X.env.scope scope own)
    (pgs : ∀ s H C cl fp, PG (X.blk s H scope (compEnvC scope cl C X.env) fp) tg g)
    (pts : ∀ s H C cl fp, PTs (X.blk s H scope (compEnvC scope cl C X.env) fp) ifs tt)
    (pks : ∀ s H C cl fp, PE (X.blk s H scope (compEnvC scope cl C X.env) fp) kx tk)
    (pvs : ∀ s H C cl fp, PE (X.blk s H scope (compEnvC scope cl C X.env) fp) vx tv)
    (plain : ∀ x, foldedSetIterable iter X.env x = pure x := by intro _; rfl) : PE X (.DictComp kx vx [⟨tg, iter, ifs, 0⟩] scope pos) (tDcG o0 R wi g tt tk tv (own.map (·.2))) := by
  constructor
  intro pins s σ H Q I want
  rw [arm_eval_DictComp]
  have caught : ∀ y ∈ scope.names, y.2 = .free → ∃ c, X.env.cells.lookup y.1 = some c := by
    intro y hy e
    exact (ok.free y hy e).elim (fun k => I.ok.has _ (.inl k)) fun k => I.ok.has _ (.inr k)
  refine wpAny_comprehension_free rfl plain (closure_ok caught) ok.kind (fun y hy e => (ok.uniq y hy).trans (by rw [e])) ?_
  refine thn (pi.run pins s σ H _ I want) fun xv s1 hx => thn hx fun itv s2 got => ?_
  obtain ⟨it, fp, tn, J, H2, ei, I2, T, t2, free2, q⟩ := got
  subst ei
  refine wpAny_newObj_type (newEnv_comp ?_)
  have fresh : H2 s2.heap.objs.size = none := I2.hok.fresh (Nat.le_refl _)
  obtain ⟨W, ⟨m0, w0⟩, turn⟩ := q _ fresh
  have I3 : Inv X pins σ (upd H2 s2.heap.objs.size (o0 s2.heap.objs.size)) { s2 with heap := s2.heap.push { cls := .type "dict", data := .dict #[] } } :=
    I2.laid (t' := s2.toks) (fun _ _ e => Heap.get?_push_of_some _ e) (Nat.le_refl _) (way.new _ _ I2.big)
  have below : ∀ b ∈ fp, b < s2.heap.objs.size := fun b hb => let ⟨_, e, _⟩ := T.obj _ _ t2 b hb; Heap.lt_size e
  have free3 : ∀ b ∈ fp, FpOk X pins (upd H2 s2.heap.objs.size (o0 s2.heap.objs.size)) b := fun b hb =>
    ⟨by rw [upd_ne (Nat.ne_of_lt (below b hb))]; exact (free2 b hb).1, (free2 b hb).2⟩
  have t3 : tn 0 (s2.heap.push { cls := .type "dict", data := .dict #[] }) := T.keep _ _ _ t2 fun _ _ _ e => Heap.get?_push_of_some _ e
  have I4 := block_start I3 ok nd fun b hb => ⟨free3 b hb, by rw [Heap.size_push]; exact Nat.lt_succ_of_lt (below b hb)⟩
  -- names for what the block starts with
  generalize hs3 : ({ s2 with heap := s2.heap.push { cls := .type "dict", data := .dict #[] } } : Shared) = s3 at I3 I4
  have eh3 : s2.heap.push { cls := .type "dict", data := .dict #[] } = s3.heap := by rw [← hs3]
  rw [eh3] at t3
  have t4 : tn 0 (pushCells (s3.heap.push { cls := .type "dict", data := .dict #[] }) scope.names) := T.keep _ _ _ t3 fun _ _ _ e => pushCells_keeps _ _ _ _ (Heap.get?_push_of_some _ e)
  have go : ∀ (ce : Env) (H3 : Hp) (s4 : Shared), ce.locals = s3.heap.objs.size → Inv X pins σ H3 s3 → Inv (X.blk s3 H3 scope ce fp) [] (wipe σ (own.map (·.2))) H3 s4 → tn 0 s4.heap → (∀ b ∈ fp, FpOk X pins H3 b) → W 0 m0 H3 →
      PG (X.blk s3 H3 scope ce fp) tg g → PTs (X.blk s3 H3 scope ce fp) ifs tt → PE (X.blk s3 H3 scope ce fp) kx tk → PE (X.blk s3 H3 scope ce fp) vx tv →
      codeAny (model X.prog X.w) X.A (.compLoop (.DictComp kx vx [⟨tg, iter, ifs, 0⟩] scope pos) 0 (.ref it) (.ref s2.heap.objs.size) ce) (compPost (model X.prog X.w) X.A X.xe none (EP X pins σ Q) (.ref s2.heap.objs.size) s3.heap.objs.size) s4 := by
    intro ce H3 s4 hL J3 J4 st f3 ww pg pt pk pv
    have held : ∀ {σ' : L2.St} {H' : Hp} {s' : Shared}, Inv (X.blk s3 H3 scope ce fp) [] σ' H' s' → (∀ b ∈ fp, H' b = none) → ∀ b ∈ fp, FpOk (X.blk s3 H3 scope ce fp) [] H' b := by
      intro σ' H' s' I' hn b hb
      exact ⟨hn b hb, (I'.ok.exf b hb).1, I'.ok.exfs b hb, .inl hb, fun x c e => (I'.ok.exf b hb).2 x c e, fun p hp => by simp at hp⟩
    refine compLoop_anyD (fun n s' => ∃ i H', Inv (X.blk s3 H3 scope ce fp) [] (wipe σ (own.map (·.2))) H' s' ∧ tn i s'.heap ∧ (∀ b ∈ fp, H' b = none) ∧ W i n H') ?_ m0 ⟨0, H3, J4, st, fun b hb => (f3 b hb).1, ww⟩
    rintro n s5 ⟨i, H5, I5, t5, n5, w5⟩
    rcases turn i n H5 w5 with ⟨stop, qq⟩ | ⟨more, Nx, hNx, step⟩
    · refine thnF (T.done (X.blk s3 H3 scope ce fp) rfl rfl rfl calm i [] s5 _ H5 (fun _ _ => False) I5 (held I5 n5) t5 stop) fun r s6 ⟨hr, I6⟩ => ?_
      subst hr
      have I7 : Inv X pins σ H5 s6 := J3.call' (ch := fp) I6.os I6.base I6.hok I6.bare fun b hb => ⟨(f3 b hb).2.2.2.1, (f3 b hb).2.1, (f3 b hb).2.2.2.2.1, (f3 b hb).2.2.2.2.2⟩
      have gone : H5 s3.heap.objs.size = none := by rw [← hL]; exact I6.free
      obtain ⟨m, hn, _⟩ := I6.loc
      have hn : s6.heap.Ns ce.locals m := hn
      rw [hL] at hn
      obtain ⟨f0, f1, f2, f3', f4, f5⟩ := J3.fpOk (Nat.le_refl _) gone
      exact ⟨m, hn, fun h'' sb => ⟨.ref _, H5, I7.turned (t' := s6.toks) (fun b o hb e => (sb.2 b hb).trans e) f0 f1 f3' f4 f5, rfl, qq⟩⟩
    · refine thnF (T.item (X.blk s3 H3 scope ce fp) rfl rfl rfl calm i [] s5 _ H5 (fun _ _ => False) I5 (held I5 n5) t5 more) fun r s6 ⟨u, hr, h6⟩ => ?_
      subst hr
      refine thnF h6 fun _ s7 ⟨x, H7, I7, r7, y7, t7, n7⟩ => ?_
      refine thnF (pg.run _ s7 _ H7 x u _ (I7.pinned (held I7 n7) (T.obj _ _ t7)) r7 (step x H7 y7)) fun _ s8 ⟨σ8, H8, I8, e8, q8⟩ => ?_
      refine thnF (pt.run _ s8 σ8 H8 _ I8 q8) fun b s9 ⟨H9, I9, q9⟩ => ?_
      have close : ∀ {s' : Shared} {H' : Hp}, Inv (X.blk s3 H3 scope ce fp) ([] ++ pinsAt fp s7.heap) σ8 H' s' → Nx H' → ∃ m, m < n ∧ ∃ i H', Inv (X.blk s3 H3 scope ce fp) [] (wipe σ (own.map (·.2))) H' s' ∧ tn i s'.heap ∧ (∀ b ∈ fp, H' b = none) ∧ W i m H' := by
        intro s' H' I' nx
        obtain ⟨m', lt, w'⟩ := hNx H' nx
        have still : ∀ b ∈ fp, ∀ o, s7.heap.get? b = some o → s'.heap.get? b = some o ∧ H' b = none := by
          intro b hb o e
          have z := I'.pin (b, o) (List.mem_append_right _ (List.mem_append_right _ (mem_pinsAt hb e)))
          exact ⟨z.1, z.2.1⟩
        refine ⟨m', lt, i + 1, H', (I'.unpinned (pins := [])).weak (by rw [← e8, wipe_length]) ?_, T.keep _ _ _ t7 fun b hb o e => (still b hb o e).1, ?_, w'⟩
        · intro j v e
          rw [← e8] at e
          exact (wipe_some e).1
        · intro b hb
          obtain ⟨o, e, _⟩ := T.obj _ _ t7 b hb
          exact (still b hb o e).2
      cases b with
      | false => exact close I9 q9
      | true =>
        rw [if_pos rfl] at q9 ⊢
        refine thnF (pk.run _ s9 σ8 H9 _ I9 q9) fun kv s10 ⟨y, H10, I10, r10, q10⟩ => ?_
        refine thnF (pv.run _ s10 σ8 H10 _ I10 q10) fun vv s11 ⟨z, H11, I11, r11, q11⟩ => ?_
        exact thnF (way.put (X.blk s3 H3 scope ce fp) rfl rfl rfl rfl _ σ8 H11 s11 (fun _ _ => False) _ y z kv vv Nx I11 r10 r11 q11) fun _ s12 ⟨H12, I12, nx⟩ => close I12 nx
  have go4 := go _ _ _ rfl I3 I4 t4 free3 w0 (pgs _ _ _ _ _) (pts _ _ _ _ _) (pks _ _ _ _ _) (pvs _ _ _ _ _)
  exact codeAny_compStart_dict go4 (T.self X.A 0 _ _ _ t4 go4)
end

def rDN (B : Bs) : TDict := fun D y z H Nx => ∃ es k b, y = .ref b ∧ DNat B H D es ∧ KeyAt B H y k ∧ es.length < sizeLine ∧ Nx (upd H D (hoN B D (putN es k b z)))
theorem hoN_stay {B : Bs} {a : Addr} {es : List EN} {h1 h2 : Heap} : (es.length ≤ sizeLine ∧ (a == sysModules) = false ∧ (∀ e ∈ es, e.1.depth ≤ 8) ∧ ∃ xs : List (NestedKey × Addr × Value), PN es xs ∧ ∃ o es' ep, h1.get? a = some o ∧ o.ExactDict ∧ o.data = .dict es' ep ∧ es'.toList = xs.map (entryOfKey (nestedKind B.P B.w)) ∧ (xs.map (·.1)).Nodup) →
    (∀ o, h1.get? a = some o → h2.get? a = some o) → (es.length ≤ sizeLine ∧ (a == sysModules) = false ∧ (∀ e ∈ es, e.1.depth ≤ 8) ∧ ∃ xs : List (NestedKey × Addr × Value), PN es xs ∧ ∃ o es' ep, h2.get? a = some o ∧ o.ExactDict ∧ o.data = .dict es' ep ∧ es'.toList = xs.map (entryOfKey (nestedKind B.P B.w)) ∧ (xs.map (·.1)).Nodup) := fun φ k => by
  obtain ⟨q1, q2, q3, ys, q4, o', e1, e2, q5, q6⟩ := φ
  exact ⟨q1, q2, q3, ys, q4, o', e1, e2, k o' q5, q6⟩
theorem wayN {X : Cx} (hu : X.A.units + 64 < cLine) : DictWay X.prog X.w X.K X.A (fun D => hoN (Bx X) D []) (rDN (Bx X)) where
  new := fun H h big => by
    have g := Heap.get?_push_size h (o := { cls := .type "dict", data := .dict #[] }) rfl
    exact ⟨⟨Nat.zero_le _, beq_eq_false_iff_ne.mpr (Ne.symm (Nat.ne_of_lt big)), ⟨fun e h => absurd h (by simp), [], Paired.nil, _, #[], 0, g, ⟨rfl, rfl, rfl⟩, rfl, rfl, List.nodup_nil⟩⟩, ⟨_, g⟩, fun h1 h2 => hoN_stay⟩
  put := fun Y hP hw hK hA pins σ H s E D y z u r Nx I ry rz h => by
    have eB : Bx X = Bx Y := by unfold Bx; rw [hP, hw, hK]
    rw [eB] at h
    rw [← hP, ← hw, ← hA]
    rw [← hA] at hu
    obtain ⟨es, k, b, rfl, d, kk, hz, nx⟩ := h
    obtain ⟨k1, k2⟩ := key_at I kk ry
    cases ry
    obtain ⟨z1, hd, dp, xs, rel, dd⟩ := dn_of I d.rd
    have hl : xs.length ≤ sizeLine := by rw [← Paired.length rel]; exact z1
    refine wpAny_dictSet_heap (knd := nestedKind Y.prog Y.w) (hsz := hl) (show Y.A.units + 8 < cLine by omega) ⟨k1, k2⟩ dd fun h' dd' hs => ?_
    obtain ⟨o, es', ep, g1, g2, g3, g4, _, g5⟩ := dd'
    have hlen := length_putN es k b z
    have dps : ∀ e ∈ putN es k b z, e.1.depth ≤ 8 := fun e he => by
      unfold putN at he
      split at he
      · obtain ⟨e0, he0, rfl⟩ := List.mem_map.mp he
        split
        · show e0.1.depth ≤ 8; exact dp e0 he0
        · exact dp e0 he0
      · rcases List.mem_append.mp he with he | he
        · exact dp e he
        · rw [List.mem_singleton] at he; subst he; exact k2
    exact ⟨upd H D (hoN (Bx Y) D (putN es k b z)), d_write (ob := hoN (Bx Y) D (putN es k b z)) I (by rw [d.at_]; exact True.intro) hs ⟨o, g1⟩ ⟨⟨by omega, hd, dps, _, rel.put k b rz, o, es', ep, g1, g2, g3, g4, g5⟩, ⟨o, g1⟩, fun h1 h2 => hoN_stay⟩, nx⟩
section
variable {α β : Type} [DecidableEq α] {ke : KeyEnc α} {ev : β → T} {c : Cn} {δ : List SV} {Post : List SV → SV → Prop} {tl tk tv : TE} {g : TG} {tt : TT} {vs : List Nat}
/-- {k: v for t in a list of data if ..} -/
theorem ev_dcL (ke : KeyEnc α) (ev : β → T) (h : EV c tl δ fun δ1 r => ∃ ts, Pu r (.d (.lst ts)) ∧ ts.length ≤ sizeLine ∧ ∃ I : Nat → List (α × β) → List SV → Prop, I 0 [] (wd δ1 vs) ∧
    (∀ i t m δ, ts[i]? = some t → I i m δ → GT c g (· ∈ vs) (.d t) (wd δ vs) fun δ2 => EVT c tt δ2 fun δ3 b => if b = true then EV c tk δ3 fun δ4 r => ∃ k, r = .d (ke.ek k) ∧ EV c tv δ4 fun δ5 r' => ∃ x, Pu r' (.d (ev x)) ∧ m.length < sizeLine ∧ I (i + 1) (putM m k x) (wd δ5 vs) else I (i + 1) m (wd δ3 vs)) ∧
    ∀ m δ, I ts.length m δ → ∀ p, Post δ (.own p (.N ke ev m))) : EV c (tDcG (fun D => hoN c.B D []) (rDN c.B) (iList c.B.K tl) g tt tk tv vs) δ Post := fun σ H ρ Q S q =>
  h σ H ρ _ S fun v H1 δ1 r ⟨ts, p, hz, I, h0, hs, hd⟩ S1 => by
    obtain ⟨F1, g1, S3⟩ := S1.put p
    have hv : DV c.B F1 v (.lst ts) := S3.last
    simp only [DV] at hv
    obtain ⟨a, xs, rfl, hx, hxs⟩ := hv
    refine ⟨a, rfl, ⟨xs, SqL.of (S3.fh _ _ hx)⟩, fun Dl hD => ?_⟩
    have hl := hxs.length
    have S4 : StF c F1 g1 σ H1 δ1 (ρ ++ [(V.ref a, SV.lv xs ts)]) := S3.drop.push ⟨a, rfl, SqL.of hx, hxs⟩
    obtain ⟨g', S5, e1, e2, e3⟩ := S4.newOwn (u := hoN c.B Dl []) hD
    have S6 := ((S5.retag (l := .tmp (ρ ++ [(V.ref a, SV.lv xs ts)]).length) e1).push (p := (.ref Dl, .own Dl (.N ke ev ([] : List (α × β))))) ⟨rfl, if_pos rfl, e3, [], upd_same, rfl, .nil, .nil⟩).unwipe (vs := vs) rfl
    refine ⟨fun i n H => n = ts.length - i ∧ i ≤ ts.length ∧ ∃ m δ, I i m δ ∧ St c σ H δ ((ρ ++ [(V.ref a, SV.lv xs ts)]) ++ [(.ref Dl, .own Dl (.N ke ev m))]), ⟨ts.length, by simp, Nat.zero_le _, [], _, h0, F1, _, S6⟩, ?_⟩
    rintro i n H2 ⟨rfl, hi, m, δ2, k, F2, gg, S7⟩
    obtain ⟨b, e, hx2, hxs2⟩ := id S7.drop.last
    cases e
    by_cases hlt : i < ts.length
    · have hlx : i < xs.length := by omega
      refine .inr ⟨⟨xs, xs[i], S7.fh.sql hx2, by simp [hlx]⟩, fun H => ∃ m δ, I (i + 1) m δ ∧ St c σ H δ ((ρ ++ [(V.ref a, SV.lv xs ts)]) ++ [(.ref Dl, .own Dl (.N ke ev m))]), fun H' ⟨m, δ, k, S⟩ => ⟨ts.length - (i + 1), by omega, rfl, hlt, m, δ, k, S⟩, fun x H' y => ?_⟩
      obtain ⟨e, y⟩ := y
      subst e
      have hxi := y xs (S7.fh.sql hx2)
      obtain ⟨t, ht, hxt⟩ := hxs2.get' hxi
      refine hs i t m δ2 ht k x (wipe σ vs) _ _ _ ⟨F2, gg, S7.wipe vs, hxt⟩ fun σ3 H3 δ3 k3 S8 o => ?_
      have ew : wipe σ3 vs = wipe σ vs := (wipe_only o).trans (wipe_wipe σ vs)
      refine ⟨ew, k3 σ3 H3 _ _ S8 fun bb H4 δ4 k4 S9 => ?_⟩
      cases bb with
      | false =>
        obtain ⟨F4, g4, S9⟩ := S9
        exact ⟨m, _, k4, F4, g4, S9.unwipe ew⟩
      | true =>
        rw [if_pos rfl] at k4 ⊢
        refine k4 σ3 H4 _ _ S9 fun y4 H5 δ5 r5 ⟨kk, e5, k5⟩ S10 => ?_
        subst e5
        refine k5 σ3 H5 _ _ S10.push fun z5 H6 δ6 r6 ⟨x6, p6, hz6, k6⟩ S11 => ?_
        obtain ⟨F6, g6, S12⟩ := S11.put p6
        have hz6' : DV c.B F6 z5 (ev x6) := S12.last
        have hy6 : DV c.B F6 y4 (ke.ek kk) := S12.drop.last
        have S13 := S12.drop.drop
        obtain ⟨_, q1, q2, q3⟩ := S13.last
        unfold OW.N at q3
        obtain ⟨es, h1, h2, h3, h4⟩ := q3
        have na : NAt c.B F6 H6 Dl ke ev m es := .of S13.fh h1 h2 h3 h4
        have el : es.length = m.length := by have := congrArg List.length na.k; simpa using this
        obtain ⟨⟨bb, rfl⟩, kat⟩ := key_ok S13.fh hy6
        obtain ⟨w1, w2, w3⟩ := put_at (y := z5) (b := bb) (k := kk) na.k na.r na.v hy6 hz6'
        exact ⟨es, _, bb, rfl, ⟨h1, na.d.ks⟩, kat, by rw [el]; exact hz6, putM m kk x6, _, k6, F6, g6, (S13.updT (o' := .N ke ev (putM m kk x6)) (u := hoN c.B Dl (putN es (ke.en kk) bb z5)) ⟨_, upd_same, by rw [nks_map, w1], w2, w3⟩).unwipe ew⟩
    · have e : i = ts.length := by omega
      subst e
      refine .inl ⟨⟨xs, S7.fh.sql hx2, by omega⟩, ?_⟩
      obtain ⟨_, q1, q2, q3⟩ := S7.last
      have S0 := S7.drop
      have top : St1 c σ H2 δ2 (ρ ++ [(V.ref a, SV.lv xs ts)]) (.ref Dl) (.own Dl (.N ke ev m)) := by
        refine ⟨F2, fun b => if b = Dl then some .top else gg b, ⟨S0.fh, S0.f0, S0.fn, S0.h0, S0.len, fun i s e => (S0.sl i s e).at Dl (by rw [q1]; intro z; cases z), fun n q e => (S0.tm n q e).at Dl (fun z => ?_), fun b l' e => ?_, S0.an, S0.tbIf q1⟩, rfl, if_pos rfl, q2, q3⟩
        · rw [q1] at z
          injection z with z; injection z with z
          have := (List.getElem?_eq_some_iff.mp e).1
          omega
        · by_cases w : b = Dl
          · rw [w]; exact S0.gn Dl _ q1
          · rw [if_neg w] at e; exact S0.gn b l' e
      obtain ⟨F9, g9, S9, t9⟩ := top
      exact q _ H2 δ2 _ (hd m δ2 k Dl) ⟨F9, g9, S9.drop, t9⟩
end
end DL

namespace DL
open PySem L2

section
variable {c : Cn} {δ : List SV} {Post : List SV → SV → Prop} {s : SV} {ts : List T}
/-! ### slices -/
abbrev RSl := V → Option Int → Option Int → Hp → VK → Prop
def orSl (f g : RSl) : RSl := fun x lo hi H Q => f x lo hi H Q ∨ g x lo hi H Q
def uSl (B : Bs) : RSl := orSl (rSlL B.K) (orSl (rSlT B.K) rSlS)
theorem sl_u {X : Cx} : SlR X (uSl (Bx X)) := sl_list.or (sl_tup.or sl_str)
def EVO (c : Cn) (to : TO) (δ : List SV) (P : List SV → Option Int → Prop) : Prop := ∀ σ H ρ Q, St c σ H δ ρ → (∀ o H' δ', P δ' o → St c σ H' δ' ρ → Q o H') → to σ H Q
def OPS (c : Cn) (f : RSl) (δ : List SV) (s : SV) (lo hi : Option Int) (Post : List SV → SV → Prop) : Prop := ∀ σ H ρ x Q, St c σ H δ (ρ ++ [(x, s)]) → (∀ v H' δ' r, Post δ' r → St1 c σ H' δ' ρ v r → Q v H') → f x lo hi H Q
theorem eo_none {P : List SV → Option Int → Prop} (k : P δ none) : EVO c tNoPart δ P := fun σ H ρ Q S q => q none H δ k S
theorem eo_some {te : TE} {P : List SV → Option Int → Prop} (h : EV c te δ fun δ1 r => ∃ i : Int, r = .d (.int i) ∧ P δ1 (some i)) : EVO c (tPart te) δ P := fun σ H ρ Q S q => h σ H ρ _ S fun v H' δ' r ⟨i, e, k⟩ S1 => by
  subst e
  obtain ⟨F, g, S1, hv⟩ := S1
  exact ⟨i, DV.int_ (B := c.B) (F := F) hv, q _ H' δ' k ⟨F, g, S1⟩⟩
theorem ev_sl {te : TE} {tl th : TO} {f : RSl} (h : EV c te δ fun δ1 r => ∃ s1, Pu r s1 ∧ EVO c tl δ1 fun δ2 lo => EVO c th δ2 fun δ3 hi => OPS c f δ3 s1 lo hi Post) : EV c (tSl f te tl th) δ Post := fun σ H ρ Q S q =>
  h σ H ρ _ S fun x H1 δ1 r ⟨s1, p, k⟩ S1 => k σ H1 _ _ (S1.put p) fun lo H2 δ2 k2 S2 => k2 σ H2 _ _ S2 fun hi H3 δ3 k3 S3 => k3 σ H3 ρ x Q S3 q
def cutG {α : Type} (xs : List α) (lo hi : Option Int) : List α := (xs.drop (HT.sIx xs.length 0 lo)).take (HT.sIx xs.length xs.length hi - HT.sIx xs.length 0 lo)
theorem DVs.cut {B : Bs} {F : Hp} {xs : List V} {ts : List T} (h : DVs B F xs ts) (lo hi : Option Int) : DVs B F (cutV xs lo hi) (cutG ts lo hi) := by
  unfold cutV cutG
  rw [h.length]
  exact (h.drop _).take _
theorem os_L {lo hi : Option Int} (l : LstV δ s ts) (k : ∀ p, Post δ (.own p (.lst (cutG ts lo hi)))) : OPS c (uSl c.B) δ s lo hi Post := fun σ H ρ x Q S q => by
  obtain ⟨F, g, S2, h⟩ := S.top1
  obtain ⟨a, xs, rfl, ha, dv⟩ := l.at S2 h
  exact .inl ⟨a, xs, rfl, SqL.of ha, fun p hp => q _ _ δ _ (k p) (S2.newLst hp (dv.cut lo hi))⟩
theorem os_T {lo hi : Option Int} (hn : ¬ (HT.sIx ts.length 0 lo = 0 ∧ HT.sIx ts.length ts.length hi = ts.length)) (k : Post δ (.d (.tup (cutG ts lo hi)))) : OPS c (uSl c.B) δ (.d (.tup ts)) lo hi Post := fun σ H ρ x Q S q => by
  obtain ⟨F, g, S2, h⟩ := S.top1
  obtain ⟨a, xs, rfl, ha, dv⟩ := S2.tup h
  refine .inr (.inl ⟨a, xs, rfl, ha, by rw [dv.length]; exact hn, fun p hp => ?_⟩)
  obtain ⟨S3, e3⟩ := S2.newTup (u := .tup (cutV xs lo hi)) hp
  exact q _ _ δ _ k ⟨_, g, S3, DV.tup_ (SqT.of upd_same) (DVs.mono e3 _ _ (dv.cut lo hi))⟩
theorem os_S {z : Str} {lo hi : Option Int} (hz : z.length ≤ sizeLine) (k : Post δ (.d (.str (cutS z lo hi)))) : OPS c (uSl c.B) δ (.d (.str z)) lo hi Post := fun σ H ρ x Q S q => by
  obtain ⟨F, g, S2, h⟩ := S.top1
  exact .inr (.inr ⟨z, DV.str_ (B := c.B) (F := F) h, hz, q _ _ δ _ k (St.flat ⟨F, g, S2⟩ (t := .str (cutS z lo hi)) rfl)⟩)
/-! ### list(xs), tuple(xs) -/
def rList1 (B : Bs) : List V → Hp → VK → Prop := fun xs H Q => ∃ p ys, xs = [.ref p] ∧ (SqL B.K H p ys ∨ SqT B.K H p ys) ∧ ∀ l, H l = none → Q (.ref l) (upd H l (.lst ys))
def rTuple1 (B : Bs) : List V → Hp → VK → Prop := fun xs H Q => ∃ p ys, xs = [.ref p] ∧ ((SqL B.K H p ys ∧ ∀ l, H l = none → Q (.ref l) (upd H l (.tup ys))) ∨ (SqT B.K H p ys ∧ Q (.ref p) H))
theorem call_list' {X : Cx} : CallR X (.type "list") (rList1 (Bx X)) := call_list_of
theorem call_tuple' {X : Cx} : CallR X (.type "tuple") (rTuple1 (Bx X)) := call_tuple_of
theorem oa_list (l : LstV δ s ts) (k : ∀ p, Post δ (.own p (.lst ts))) : OPA c (rList1 c.B) δ [s] Post := fun σ H ρ vs Q hl S q => by
  obtain ⟨v, rfl, S⟩ := S.arg1 hl
  obtain ⟨F, g, S2, h⟩ := S.top1
  obtain ⟨a, xs, rfl, ha, dv⟩ := l.at S2 h
  exact ⟨a, xs, rfl, .inl (SqL.of ha), fun p hp => q _ _ δ _ (k p) (S2.newLst hp dv)⟩
theorem oa_tuple (l : LstV δ s ts) (k : Post δ (.d (.tup ts))) : OPA c (rTuple1 c.B) δ [s] Post := fun σ H ρ vs Q hl S q => by
  obtain ⟨v, rfl, S⟩ := S.arg1 hl
  obtain ⟨F, g, S2, h⟩ := S.top1
  obtain ⟨a, xs, rfl, ha, dv⟩ := l.at S2 h
  refine ⟨a, xs, rfl, .inl ⟨SqL.of ha, fun p hp => ?_⟩⟩
  obtain ⟨S3, e3⟩ := S2.newTup (u := .tup xs) hp
  exact q _ _ δ _ k ⟨_, g, S3, DV.tup_ (SqT.of upd_same) (DVs.mono e3 _ _ dv)⟩
/-! ### max, all, any, join of a list -/
theorem dv_ints {B : Bs} {F : Hp} : ∀ {ns : List Int} {vs : List V}, DVs B F vs (ns.map T.int) → vs = ns.map V.int
  | [], _, h => by simp only [List.map_nil, DVs] at h; exact h
  | n :: ns, _, h => by
    rw [List.map_cons] at h
    simp only [DVs] at h
    obtain ⟨v, r, rfl, h1, h2⟩ := h
    rw [DV.int_ h1, dv_ints h2, List.map_cons]
theorem dv_bls {B : Bs} {F : Hp} : ∀ {ns : List Bool} {vs : List V}, DVs B F vs (ns.map T.bl) → vs = ns.map V.bl
  | [], _, h => by simp only [List.map_nil, DVs] at h; exact h
  | n :: ns, _, h => by
    rw [List.map_cons] at h
    simp only [DVs] at h
    obtain ⟨v, r, rfl, h1, h2⟩ := h
    rw [DV.bl_ h1, dv_bls h2, List.map_cons]
theorem dv_strs {B : Bs} {F : Hp} : ∀ {ns : List Str} {vs : List V}, DVs B F vs (ns.map T.str) → vs = ns.map V.str
  | [], _, h => by simp only [List.map_nil, DVs] at h; exact h
  | n :: ns, _, h => by
    rw [List.map_cons] at h
    simp only [DVs] at h
    obtain ⟨v, r, rfl, h1, h2⟩ := h
    rw [DV.str_ h1, dv_strs h2, List.map_cons]
theorem oa_max {ns : List Int} (l : LstV δ s (ns.map T.int)) (h0 : 0 < ns.length) (k : ∀ m, m ∈ ns → (∀ y, y ∈ ns → y ≤ m) → Post δ (.d (.int m))) : OPA c (rMax c.B.K) δ [s] Post := fun σ H ρ vs Q hl S q => by
  obtain ⟨v, rfl, S⟩ := S.arg1 hl
  obtain ⟨F, g, S2, h⟩ := S.top1
  obtain ⟨a, xs, rfl, ha, dv⟩ := l.at S2 h
  rw [dv_ints dv] at ha
  exact ⟨a, ns, rfl, SqL.of ha, h0, fun m h1 h2 => q _ _ δ _ (k m h1 h2) (St.flat ⟨F, g, S2⟩ (t := .int m) rfl)⟩
theorem oa_all {bs : List Bool} (l : LstV δ s (bs.map T.bl)) (k : Post δ (.d (.bl (bs.all id)))) : OPA c (rAll c.B.K) δ [s] Post := fun σ H ρ vs Q hl S q => by
  obtain ⟨v, rfl, S⟩ := S.arg1 hl
  obtain ⟨F, g, S2, h⟩ := S.top1
  obtain ⟨a, xs, rfl, ha, dv⟩ := l.at S2 h
  rw [dv_bls dv] at ha
  exact ⟨a, bs, rfl, SqL.of ha, q _ _ δ _ k (St.flat ⟨F, g, S2⟩ (t := .bl (bs.all id)) rfl)⟩
def rJoin1 (B : Bs) : V → List V → Hp → VK → Prop := fun x xs H Q => ∃ a p, ∃ ys : List Str, x = .str a ∧ xs = [.ref p] ∧ (SqL B.K H p (ys.map V.str) ∨ SqT B.K H p (ys.map V.str)) ∧ (ys.map (·.length)).sum + ys.length * a.length ≤ 16777216 ∧ Q (.str (Txt.join a ys)) H
theorem mt_join' {X : Cx} : MtR X "str.join" (rJoin1 (Bx X)) := mt_join
theorem ev_join {ta te : TE} (h : EV c ta δ fun δ1 r => ∃ a : Str, r = .d (.str a) ∧ EV c te δ1 fun δ2 r2 => ∃ s2, Pu r2 s2 ∧ ∃ ys : List Str, LstV δ2 s2 (ys.map T.str) ∧ (ys.map (·.length)).sum + ys.length * a.length ≤ 16777216 ∧ Post δ2 (.d (.str (Txt.join a ys)))) :
    EV c (tBM c.B.K "str" (rJoin1 c.B) ta (tCons te tNil)) δ Post := fun σ H ρ Q S q => h σ H ρ _ S fun v H1 δ1 r ⟨a, e, k⟩ S1 => by
  subst e
  obtain ⟨F1, g1, S1, hv⟩ := S1
  have hv : v = .str a := DV.str_ (B := c.B) (F := F1) hv
  subst hv
  refine ⟨rfl, k σ H1 ρ _ ⟨F1, g1, S1⟩ fun y H2 δ2 r2 ⟨s2, p, ys, l, hz, k2⟩ S2 => ?_⟩
  obtain ⟨F, g, S3, h⟩ := (S2.put p).top1
  obtain ⟨b, xs, rfl, hb, dv⟩ := l.at S3 h
  rw [dv_strs dv] at hb
  exact ⟨a, b, ys, rfl, rfl, .inl (SqL.of hb), hz, q _ _ δ2 _ k2 (St.flat ⟨F, g, S3⟩ (t := .str (Txt.join a ys)) rfl)⟩
/-! ### truth -/
inductive TruT (δ : List SV) : SV → Bool → Prop
  | non : TruT δ (.d .non) false
  | bl (b : Bool) : TruT δ (.d (.bl b)) b
  | int (i : Int) : TruT δ (.d (.int i)) (i != 0)
  | lst {s : SV} {ts : List T} (l : LstV δ s ts) : TruT δ s (!ts.isEmpty)
theorem et_truth {te : TE} {K : PySem.W.Frag} {P : List SV → Bool → Prop} (h : EV c te δ fun δ1 r => ∃ s1, Pu r s1 ∧ ∃ b, TruT δ1 s1 b ∧ P δ1 b) : EVT c (fun σ H Q => te σ H fun x H' => ∃ k, TruV K x H' k ∧ Q k H') δ P := fun σ H ρ Q S q => h σ H ρ _ S fun v H1 δ1 r ⟨s1, p, b, t, k⟩ S1 => by
  obtain ⟨F, g, S2, hv⟩ := (S1.put p).top1
  refine ⟨b, ?_, q b H1 δ1 k ⟨F, g, S2⟩⟩
  cases t with
  | non => rw [show v = .non from DV.non_ (B := c.B) (F := F) hv]; rfl
  | bl b => rw [show v = .bl b from DV.bl_ (B := c.B) (F := F) hv]; rfl
  | int i => rw [show v = .int i from DV.int_ (B := c.B) (F := F) hv]; rfl
  | @lst _ ts l =>
    obtain ⟨a, xs, rfl, ha, dv⟩ := l.at S2 hv
    refine .inl ⟨xs, SqL.of ha, ?_⟩
    have := dv.length
    cases xs <;> cases ts <;> simp_all
/-! ### isinstance with a class -/
theorem oa_isi {t : T} {tv : Value} {cl : V} {u : Value} {b : Bool} (hc : ClsV cl u) (ht : ∀ F H v, Ex F H → DV c.B F v t → TyX c.B.K H v tv) (hk : PySem.W.kitOne c.B.K tv u = some b) (k : Post δ (.d (.bl b))) : OPA c (rIsi c.B.K) δ [.d t, .d (.raw cl)] Post := fun σ H ρ vs Q hl S q => by
  obtain ⟨v, v', e, S1⟩ := S.arg2 hl
  subst e
  obtain ⟨F, g, S2, h1, h2⟩ := S1.top2
  have h2 : DV c.B F v' (.raw cl) := h2
  simp only [DV] at h2
  subst h2
  exact ⟨v, v', tv, u, b, rfl, hc, ht F H v S2.fh h1, hk, q _ _ δ _ k (St.flat ⟨F, g, S2⟩ (t := .bl b) rfl)⟩
/-! ### fields -/
theorem ev_fld {ta : TE} {f : Str} {C : Addr} {ns : List Str} {us : List T} {t : T} (hc : Cls c.B.K C) (hn : NoAttr c.B.K C f) (h : EV c ta δ fun δ1 r => r = .d (.obj C ns us) ∧ (ns.zip us).lookup f = some t ∧ Post δ1 (.d t)) : EV c (tFld c.B.K ta f) δ Post := fun σ H ρ Q S q => h σ H ρ _ S fun v H1 δ1 r ⟨e, hl, k⟩ S1 => by
  subst e
  obtain ⟨F, g, S2, hv⟩ := S1
  have hv : DV c.B F v (.obj C ns us) := hv
  simp only [DV] at hv
  obtain ⟨a, dx, fs, rfl, ha, hns, hd⟩ := hv
  have look : ∀ {fs : List (Str × V)} {us : List T}, DVs c.B F (fs.map (·.2)) us → ((fs.map (·.1)).zip us).lookup f = some t → ∃ v, fs.lookup f = some v ∧ DV c.B F v t := by
    intro fs
    induction fs with
    | nil => intro us _ h; simp at h
    | cons p fs ih =>
      intro us hd h
      cases us with
      | nil => simp at h
      | cons u us =>
        rw [List.map_cons] at hd h
        rw [List.zip_cons_cons] at h
        obtain ⟨d1, d2⟩ := hd.uncons
        rw [List.lookup_cons] at h
        obtain ⟨pn, pv⟩ := p
        rw [List.lookup_cons]
        cases z : f == pn with
        | true => rw [z] at h; injection h with h; subst h; exact ⟨pv, rfl, d1⟩
        | false => rw [z] at h; exact ih d2 h
  rw [← hns] at hl
  obtain ⟨v, e, dv⟩ := look hd hl
  exact ⟨a, C, dx, fs, v, rfl, S2.fh _ _ ha, hc, hn, e, q _ _ δ1 _ k ⟨F, g, S2, dv⟩⟩
/-- self.f = e in an __init__ -/
theorem es_fld0 {ta te : TE} {f : Str} {C dx : Addr} {R : DEnds} (hc : Cls c.B.K C) (hn : NoAttr c.B.K C f) (h : EV c te δ fun δ1 r => ∃ t, Pu r (.d t) ∧ EV c ta δ1 fun δ2 r2 => ∃ a, r2 = .ptr a ∧ ∃ j : Nat, δ2[j]? = some (SV.arg a (.ins C dx [] [])) ∧ R.nx (δ2.set j (.arg a (.ins C dx [f] [t])))) : ES c (sFld c.B.K ta te f) δ R := fun σ H ρ D S M =>
  h σ H ρ _ S fun y H1 δ1 r ⟨t, p, k⟩ S1 => k σ H1 _ _ (S1.put p) fun o H2 δ2 r2 ⟨a, e2, j, hj, k2⟩ S2 => by
    subst e2
    obtain ⟨F, g, S3, e⟩ := S2
    have e : o = .ref a := e
    subst e
    have hy : DV c.B F y t := S3.last
    have S4 := S3.drop
    obtain ⟨_, _, _, fs, ha, hns, hd⟩ := S4.sl j _ hj
    have e0 : fs = [] := by simpa using hns
    subst e0
    exact ⟨a, C, dx, [], rfl, ha, hc, hn, by decide, M.nx _ _ _ k2 ⟨F, g, S4.updA hj ⟨[(f, y)], upd_same, rfl, .cons hy .nil⟩⟩⟩
/-- C(..): made, and frozen -/
theorem ev_make {S : OW → List T → (OW → RT → Prop) → Prop} {C : Addr} {ta : TA} {E : XK} (h : EVA c ta δ fun δ1 rs => ∃ ts, rs = ts.map .d ∧ ∀ dx, ∃ P : OW → RT → Prop, S (.ins C dx [] []) ts P ∧ ∀ o r, P o r → ∃ ns us, o = .ins C dx ns us ∧ r = .d .non ∧ Post δ1 (.d (.obj C ns us))) : EV c (tMake C (spM c.B S) [] E ta) δ Post := fun σ H ρ Q S0 q =>
  h σ H ρ _ S0 fun vs H1 δ1 rs ⟨ts, e, k⟩ hl S1 => by
    subst e
    obtain ⟨F, g, S2, hd⟩ := S1.args hl
    intro x dx hx hdx hne
    obtain ⟨P, hS, k⟩ := k dx
    have hxd : x ≠ dx := hne.symm
    have ext : Ex H1 (upd (upd H1 dx (.own x)) x (.ins C dx [])) := fun b o e => by
      rw [upd_ne (ne_of_none e hx), upd_ne (ne_of_none e hdx)]; exact e
    have hF : F x = none := S2.fh.fresh hx
    refine ⟨F, x, vs, .ins C dx [] [], ts, by rw [List.append_nil], S2.fh.trans ext, hF, ⟨[], upd_same, rfl, .nil⟩, hd, P, hS, fun o r v H' F' hp A => ?_⟩
    obtain ⟨ns, us, rfl, rfl, k2⟩ := k o r hp
    have hr := A.res
    refine ⟨DV.non_ (B := c.B) (F := F') hr, ?_⟩
    obtain ⟨fs, h1, h2, h3⟩ := A.lst
    have fx : F' x = none := by rw [A.fn x _ upd_same]; exact hF
    have S3 := S2.grow (H' := H') (F' := upd F' x (.ins C dx fs)) (fun a o e => A.eh a o (ne_of_none e hx) (ext a o e)) (A.ef.trans (Ex.new fx)) (A.fh.in1 h1) (fun a o e => by rw [upd_ne (ne_of_none e hx)]; exact A.fn a o (ext a o e))
    refine q _ H' δ1 _ k2 ⟨_, g, S3, ?_⟩
    show DV c.B _ (.ref x) (.obj C ns us)
    simp only [DV]
    exact ⟨x, dx, fs, rfl, upd_same, h2, DVs.mono (Ex.new fx) _ _ h3⟩
end
end DL

namespace DL
open PySem L2

/-! ### rows that are never reached -/
theorem ps_never {X : Cx} {s : Stmt} : PS X s (fun _ _ _ => False) := ⟨fun _ _ _ _ _ _ h => h.elim⟩
section
variable {c : Cn} {δ : List SV} {Post : List SV → SV → Prop} {ta tb tc : TE}
/-! ### a op b op c -/
theorem ev_chain {f f' : R2} (h : EV c ta δ fun δ1 r1 => ∃ s1, Pu r1 s1 ∧ EV c tb δ1 fun δ2 r2 => ∃ t2, r2 = .d t2 ∧ ∃ F2 : List SV → SV → Prop, OP2 c f δ2 s1 (.d t2) F2 ∧
    (∀ δ3 r, F2 δ3 r → ∃ b, r = .d (.bl b) ∧ δ3 = δ2 ∧ if b = true then EV c tc δ2 fun δ4 r4 => ∃ s4, Pu r4 s4 ∧ OP2 c f' δ4 (.d t2) s4 Post else Post δ2 (.d (.bl false)))) : EV c (tChain f f' ta tb tc) δ Post := fun σ H ρ Q S q =>
  h σ H ρ _ S fun x H1 δ1 r1 ⟨s1, p1, k1⟩ S1 => k1 σ H1 _ _ (S1.put p1) fun y H2 δ2 r2 ⟨t2, e2, F2, ho, k2⟩ S2 => by
    subst e2
    -- y stands below and on top
    obtain ⟨F, g, S2, hy⟩ := S2
    have hy : DV c.B F y t2 := hy
    have S3 : St c σ H2 δ2 ((ρ ++ [(y, .d t2)]) ++ [(x, s1)] ++ [(y, .d t2)]) := by
      obtain ⟨S4, hx⟩ : StF c F g σ H2 δ2 ρ ∧ TempOk c F g H2 ρ.length (x, s1) := ⟨S2.drop, S2.last⟩
      have hyT : ∀ n, TempOk c F g H2 n (y, SV.d t2) := fun _ => hy
      cases p1 with
      | d => exact ⟨F, g, ((S4.push (hyT _)).push (show TempOk c F g H2 _ (x, SV.d _) from hx)).push (hyT _)⟩
      | ptr => exact ⟨F, g, ((S4.push (hyT _)).push (show TempOk c F g H2 _ (x, SV.ptr _) from hx)).push (hyT _)⟩
      | no => exact ⟨F, g, ((S4.push (hyT _)).push (show TempOk c F g H2 _ (x, SV.no) from trivial)).push (hyT _)⟩
      | fr => exact ⟨F, g, ((S4.push (hyT _)).push (show TempOk c F g H2 _ (x, SV.d _) from hx)).push (hyT _)⟩
      | frO _ => exact ⟨F, g, ((S4.push (hyT _)).push (show TempOk c F g H2 _ (x, SV.d _) from hx)).push (hyT _)⟩
    refine ho σ H2 (ρ ++ [(y, .d t2)]) x y _ S3 fun v H3 δ3 r k S5 => ?_
    obtain ⟨b, e, e3, k3⟩ := k2 δ3 r k
    subst e; subst e3
    obtain ⟨F5, g5, S5, hv⟩ := S5
    refine ⟨b, DV.bl_ (B := c.B) (F := F5) hv, ?_⟩
    cases b with
    | false => exact q _ H3 δ3 _ k3 (St.flat ⟨F5, g5, S5.drop⟩ rfl)
    | true =>
      have k3 : EV c tc δ3 fun δ4 r4 => ∃ s4, Pu r4 s4 ∧ OP2 c f' δ4 (.d t2) s4 Post := k3
      exact k3 σ H3 _ _ ⟨F5, g5, S5⟩ fun z H4 δ4 r4 ⟨s4, p4, k4⟩ S6 => k4 σ H4 ρ y z Q (S6.put p4) q
/-! ### a, b = x, y -/
theorem St.two {σ : L2.St} {H : Hp} {ρ : List (V × SV)} {v w : V} {t u : T} (S : St c σ H δ (ρ ++ [v, w].zip [SV.d t, SV.d u])) : ∃ F g, StF c F g σ H δ ρ ∧ DV c.B F v t ∧ DV c.B F w u := by
  obtain ⟨F, g, S, hd⟩ := S.args (ts := [t, u]) rfl
  obtain ⟨h1, hd⟩ := hd.uncons
  obtain ⟨h2, _⟩ := hd.uncons
  exact ⟨F, g, S, h1, h2⟩
theorem es_parD {i j : Nat} {ta : TA} {R : DEnds} (h : EVA c ta δ fun δ1 rs => ∃ t u, rs = [SV.d t, SV.d u] ∧ R.nx ((δ1.set i (.d t)).set j (.d u))) : ES c (tPar i j ta) δ R := fun σ H ρ D S M =>
  h σ H ρ _ S fun vs H1 δ1 rs ⟨t, u, e, k⟩ hl S1 => by
    subst e
    match vs, hl, S1 with
    | [v, w], hl, S1 =>
      obtain ⟨F, g, S2, h1, h2⟩ := S1.two
      refine ⟨v, w, rfl, M.nx _ _ _ k ?_⟩
      have S3 : St c (σ.set i (some v)) H1 (δ1.set i (.d t)) (ρ ++ [(w, .d u)]) := St1.store ⟨F, g, S2.push h2, h1⟩
      obtain ⟨F3, g3, S3⟩ := S3
      exact St1.store ⟨F3, g3, S3.drop, S3.last⟩
theorem es_par3 {i j l : Nat} {ta : TA} {R : DEnds} (h : EVA c ta δ fun δ1 rs => ∃ t u x, rs = [SV.d t, SV.d u, SV.d x] ∧ R.nx (((δ1.set i (.d t)).set j (.d u)).set l (.d x))) : ES c (tPar3 i j l ta) δ R := fun σ H ρ D S M =>
  h σ H ρ _ S fun vs H1 δ1 rs ⟨t, u, x, e, k⟩ hl S1 => by
    subst e
    match vs, hl, S1 with
    | [v, w, y], hl, S1 =>
      obtain ⟨F, g, S2, hd⟩ := S1.args (ts := [t, u, x]) rfl
      obtain ⟨h1, hd⟩ := hd.uncons
      obtain ⟨h2, hd⟩ := hd.uncons
      obtain ⟨h3, _⟩ := hd.uncons
      refine ⟨v, w, y, rfl, M.nx _ _ _ k ?_⟩
      have S3 : St c (σ.set i (some v)) H1 (δ1.set i (.d t)) ((ρ ++ [(y, .d x)]) ++ [(w, .d u)]) := St1.store ⟨F, g, (S2.push (show TempOk c F g H1 _ (y, SV.d x) from h3)).push (show TempOk c F g H1 _ (w, SV.d u) from h2), h1⟩
      obtain ⟨F3, g3, S3⟩ := S3
      have S4 : St c ((σ.set i (some v)).set j (some w)) H1 ((δ1.set i (.d t)).set j (.d u)) (ρ ++ [(y, .d x)]) := St1.store ⟨F3, g3, S3.drop, S3.last⟩
      obtain ⟨F4, g4, S4⟩ := S4
      exact St1.store ⟨F4, g4, S4.drop, S4.last⟩
end
end DL

namespace DL
open PySem L2

/-! ### what is gone through, whatever it is -/
structure DIt (c : Cn) (J : It) (ρ : List (V × SV)) (O : List SV → Prop) (ts : List T) : Prop where
  go : ∀ {i : Nat} {σ : L2.St} {H : Hp} {δ : List SV} {ρ' : List (V × SV)}, i < ts.length → O δ → St c σ H δ (ρ ++ ρ') → J.go i H
  yld : ∀ {i : Nat} {σ : L2.St} {H H' : Hp} {δ : List SV} {ρ' : List (V × SV)} {x : V}, i < ts.length → O δ → St c σ H δ (ρ ++ ρ') → J.yld i H x H' → ∃ t, ts[i]? = some t ∧ St1 c σ H' δ (ρ ++ ρ') x (.d t)
  stop : ∀ {σ : L2.St} {H : Hp} {δ : List SV} {ρ' : List (V × SV)}, O δ → St c σ H δ (ρ ++ ρ') → J.stop ts.length H
def EVI (c : Cn) (ti : TI) (δ : List SV) (P : List SV → (List SV → Prop) → List T → Prop) : Prop :=
  ∀ σ H ρ R, St c σ H δ ρ → (∀ J H' δ' p O ts, P δ' O ts → DIt c J (ρ ++ [p]) O ts → St c σ H' δ' (ρ ++ [p]) → R J H') → ti σ H R
section
variable {c : Cn} {δ : List SV} {Post : List SV → SV → Prop} {R : DEnds} {ti : TI} {g : TG} {tb : TS} {tt : TT} {te tl : TE} {ta : TA} {vs : List Nat}
theorem es_forI (h : EVI c ti δ fun δ1 O ts => ∃ I : Nat → List SV → Prop, I 0 δ1 ∧ (∀ i δ, I i δ → O δ) ∧
    (∀ i t δ, ts[i]? = some t → I i δ → GT c g All (.d t) δ fun δ2 => ES c tb δ2 { R with nx := I (i + 1), ct := I (i + 1), bk := R.nx }) ∧ ∀ δ, I ts.length δ → R.nx δ) : ES c (tFor ti g tb) δ R := fun σ H ρ D S M =>
  h σ H ρ _ S fun J H1 δ1 p O ts ⟨I, h0, hO, hs, hd⟩ DI S1 => by
    refine ⟨fun i m σ H => m = ts.length - i ∧ i ≤ ts.length ∧ ∃ δ, I i δ ∧ St c σ H δ (ρ ++ [p]), ⟨ts.length, by simp, Nat.zero_le _, δ1, h0, S1⟩, ?_⟩
    rintro i m σ2 H2 ⟨rfl, hi, δ2, k, S2⟩
    have S2' : St c σ2 H2 δ2 ((ρ ++ [p]) ++ []) := by rw [List.append_nil]; exact S2
    by_cases hlt : i < ts.length
    · refine .inr ⟨DI.go hlt (hO _ _ k) S2', fun σ' H' => ∃ δ, I (i + 1) δ ∧ St c σ' H' δ (ρ ++ [p]), fun σ' H' p' => ⟨ts.length - (i + 1), by omega, rfl, hlt, p'⟩, fun x H' y => ?_⟩
      obtain ⟨t, ht, S3⟩ := DI.yld hlt (hO _ _ k) S2' y
      rw [List.append_nil] at S3
      refine hs i t δ2 ht k x σ2 H' _ _ S3 fun σ3 H3 δ3 k3 S6 _ => k3 σ3 H3 _ _ S6 (M.turn (N := fun σ' H' => ∃ δ, I (i + 1) δ ∧ St c σ' H' δ (ρ ++ [p])) fun σ H δ k S => ⟨δ, k, S⟩)
    · have e : i = ts.length := by omega
      subst e
      exact .inl ⟨DI.stop (hO _ _ k) S2', M.nx σ2 H2 δ2 (hd δ2 k) S2.drop⟩
theorem ev_lcI (h : EVI c ti δ fun δ1 O ts => ts.length ≤ sizeLine ∧ ∃ I : Nat → List T → List SV → Prop, I 0 [] (wd δ1 vs) ∧ (∀ i acc δ, I i acc δ → O δ) ∧
    (∀ i t acc δ, ts[i]? = some t → acc.length ≤ i → I i acc δ → GT c g (· ∈ vs) (.d t) (wd δ vs) fun δ2 => EVT c tt δ2 fun δ3 b => if b = true then EV c te δ3 fun δ4 r => ∃ t', Pu r (.d t') ∧ I (i + 1) (acc ++ [t']) (wd δ4 vs) else I (i + 1) acc (wd δ3 vs)) ∧
    ∀ acc δ, acc.length ≤ ts.length → I ts.length acc δ → ∀ p, Post δ (.own p (.lst acc))) : EV c (tLc ti g tt te vs) δ Post := fun σ H ρ Q S q =>
  h σ H ρ _ S fun J H1 δ1 p O ts ⟨hz, I, h0, hO, hs, hd⟩ DI S1 => fun Dl hD => by
    obtain ⟨F1, g1, S4⟩ := S1
    obtain ⟨g2, S5⟩ := lc_start (vs := vs) S4 hD
    refine ⟨fun i m H => m = ts.length - i ∧ i ≤ ts.length ∧ ∃ acc δ, acc.length ≤ i ∧ I i acc δ ∧ St c σ H δ ((ρ ++ [p]) ++ [(.ref Dl, .own Dl (.lst acc))]), ⟨ts.length, by simp, Nat.zero_le _, [], _, Nat.le_refl _, h0, F1, g2, S5⟩, ?_⟩
    rintro i m H2 ⟨rfl, hi, acc, δ2, hlen, k, S6⟩
    by_cases hlt : i < ts.length
    · refine .inr ⟨DI.go hlt (hO _ _ _ k) S6, fun H' => ∃ acc δ, acc.length ≤ i + 1 ∧ I (i + 1) acc δ ∧ St c σ H' δ ((ρ ++ [p]) ++ [(.ref Dl, .own Dl (.lst acc))]), fun H' p' => ⟨ts.length - (i + 1), by omega, rfl, hlt, p'⟩, fun x H' y => ?_⟩
      obtain ⟨t, ht, F3, g3, S7, hx⟩ := DI.yld hlt (hO _ _ _ k) S6 y
      have hx : DV c.B F3 x t := hx
      refine lc_turn (J := fun acc δ => acc.length ≤ i + 1 ∧ I (i + 1) acc δ) (by omega) ?_ S7 hx _ fun H' acc' δ' k S => ⟨acc', δ', k.1, k.2, S⟩
      refine fun v σ H ρ Q S q => hs i t acc δ2 ht hlen k v σ H ρ Q S fun σ' H' δ' k' S' o => q σ' H' δ' (fun σ H ρ Q S q => k' σ H ρ Q S fun b H' δ' k' S' => q b H' δ' ?_ S') S' o
      cases b with
      | true => exact fun σ H ρ Q S q => (show EV c te δ' fun δ4 r => ∃ t', Pu r (.d t') ∧ I (i + 1) (acc ++ [t']) (wd δ4 vs) from k') σ H ρ Q S fun v H' δ' r ⟨t', p, kk⟩ S' => q v H' δ' r ⟨t', p, by rw [List.length_append, List.length_singleton]; omega, kk⟩ S'
      | false => exact ⟨Nat.le_succ_of_le hlen, k'⟩
    · have e : i = ts.length := by omega
      subst e
      have S7 := lc_end S6
      obtain ⟨F, g, S7, t7⟩ := S7
      exact .inl ⟨DI.stop (hO _ _ _ k) S6, q _ H2 δ2 _ (hd acc δ2 hlen k Dl) ⟨F, g, S7.drop, t7⟩⟩

/-! ### texts, enumerate -/
theorem StF.at {F : Hp} {gg : Addr → Option Loc} {σ : L2.St} {H : Hp} {ρ ρ' : List (V × SV)} {p : V × SV} (S : StF c F gg σ H δ ((ρ ++ [p]) ++ ρ')) : TempOk c F gg H ρ.length p := S.drop.last
theorem ei_S {P : List SV → (List SV → Prop) → List T → Prop} (h : EV c te δ fun δ1 r => ∃ x : Str, r = .d (.str x) ∧ P δ1 (fun _ => True) (x.cps.toList.map fun n => T.str ⟨#[n]⟩)) : EVI c (iStr te) δ P := fun σ H ρ R S q =>
  h σ H ρ _ S fun v H1 δ1 r ⟨x, e, k⟩ S1 => by
    subst e
    have e : v = .str x := by obtain ⟨F, _, _, hv⟩ := S1; exact DV.str_ (B := c.B) (F := F) hv
    subst e
    refine ⟨x, rfl, q (Its x) H1 δ1 (.str x, .d (.str x)) _ _ k ⟨?_, ?_, ?_⟩ S1.push⟩
    · intro i σ H δ ρ' hi _ _; show i < x.cps.size; simpa using hi
    · rintro i σ H H' δ ρ' y hi _ S ⟨rfl, n, hn, rfl⟩
      refine ⟨.str ⟨#[n]⟩, ?_, S.flat rfl⟩
      rw [List.getElem?_map]
      have : x.cps.toList[i]? = some n := by simpa using hn
      rw [this]; rfl
    · intro σ H δ ρ' _ _; show x.cps.size ≤ _; simp
theorem get_map2 {α : Type} (f : Nat → α → T) : ∀ (ts : List α) (i k : Nat) (t : α), ts[i]? = some t → (ts.zipIdx k |>.map fun p => f p.2 p.1)[i]? = some (f (k + i) t) := by
  intro ts i k t h
  rw [List.getElem?_map, List.getElem?_zipIdx, h]; rfl
/-- the pairs of an index and an item -/
def enumT (ts : List T) : List T := ts.zipIdx.map fun p => .tup [.int (p.2 : Nat), p.1]
theorem enumT_len (ts : List T) : (enumT ts).length = ts.length := by simp [enumT]
theorem ei_E {P : List SV → (List SV → Prop) → List T → Prop} (h : EVA c ta δ fun δ1 rs => ∃ ts, rs = [.d (.lst ts)] ∧ P δ1 (fun _ => True) (enumT ts)) : EVI c (iEnum c.B.K ta) δ P := fun σ H ρ R S q =>
  h σ H ρ _ S fun vs H1 δ1 rs ⟨ts, e, k⟩ hl S1 => by
    subst e
    obtain ⟨v, rfl, F, gg, S2⟩ := S1.arg1 hl
    have hv : DV c.B F v (.lst ts) := S2.last
    simp only [DV] at hv
    obtain ⟨a, xs, rfl, hx, hxs⟩ := hv
    have hlen := hxs.length
    have key : ∀ {σ : L2.St} {H : Hp} {δ : List SV} {ρ' : List (V × SV)}, St c σ H δ ((ρ ++ [(V.ref a, SV.lv xs ts)]) ++ ρ') → SqL c.B.K H a xs := fun ⟨F, gg, S⟩ => by
      obtain ⟨b, e, hx, _⟩ := S.at
      cases e; exact S.fh.sql hx
    refine ⟨a, xs, rfl, SqL.of (S2.fh _ _ hx), q (Ite c.B.K a) H1 δ1 (.ref a, .lv xs ts) _ _ k ⟨?_, ?_, ?_⟩ ⟨F, gg, S2.drop.push ⟨a, rfl, SqL.of hx, hxs⟩⟩⟩
    · intro i σ H δ ρ' hi _ S
      rw [enumT_len, ← hlen] at hi
      exact ⟨xs, xs[i], key S, by simp [hi]⟩
    · rintro i σ H H' δ ρ' y hi _ S ⟨p, x, rfl, hp, rfl, hh⟩
      have hxi := hh xs (key S)
      obtain ⟨F, gg, S⟩ := S
      obtain ⟨b, e, _, hd⟩ := S.at
      obtain ⟨t, ht, hxt⟩ := hd.get' hxi
      refine ⟨.tup [.int (i : Nat), t], ?_, ?_⟩
      · have := get_map2 (fun n t => T.tup [.int (n : Nat), t]) ts i 0 t ht
        rw [Nat.zero_add] at this
        exact this
      · obtain ⟨S3, e3⟩ := S.newTup (u := .tup [.int (i : Nat), x]) hp
        refine ⟨_, gg, S3, ?_⟩
        exact DV.tup_ (SqT.of upd_same) (.cons (by simp only [DV]) (.cons (hxt.any e3) .nil))
    · intro σ H δ ρ' _ S
      exact ⟨xs, key S, by rw [enumT_len, hlen]; exact Nat.le_refl _⟩
theorem ei_L {P : List SV → (List SV → Prop) → List T → Prop} (h : EV c tl δ fun δ1 r => ∃ ts, Pu r (.d (.lst ts)) ∧ P δ1 (fun _ => True) ts) : EVI c (iList c.B.K tl) δ P := fun σ H ρ R S q =>
  h σ H ρ _ S fun v H1 δ1 r ⟨ts, p, k⟩ S1 => by
    obtain ⟨F, gg, S2⟩ := S1.put p
    have hv : DV c.B F v (.lst ts) := S2.last
    simp only [DV] at hv
    obtain ⟨a, xs, rfl, hx, hxs⟩ := hv
    have hlen := hxs.length
    have key : ∀ {σ : L2.St} {H : Hp} {δ : List SV} {ρ' : List (V × SV)}, St c σ H δ ((ρ ++ [(V.ref a, SV.lv xs ts)]) ++ ρ') → SqL c.B.K H a xs := fun ⟨F, gg, S⟩ => by
      obtain ⟨b, e, hx, _⟩ := S.at
      cases e; exact S.fh.sql hx
    refine ⟨a, rfl, ⟨xs, SqL.of (S2.fh _ _ hx)⟩, q (Itl c.B.K a) H1 δ1 (.ref a, .lv xs ts) _ _ k ⟨?_, ?_, ?_⟩ ⟨F, gg, S2.drop.push ⟨a, rfl, SqL.of hx, hxs⟩⟩⟩
    · intro i σ H δ ρ' hi _ S
      rw [← hlen] at hi
      exact ⟨xs, xs[i], key S, by simp [hi]⟩
    · rintro i σ H H' δ ρ' y hi _ S ⟨rfl, hh⟩
      have hxi := hh xs (key S)
      obtain ⟨F, gg, S⟩ := S
      obtain ⟨b, e, _, hd⟩ := S.at
      obtain ⟨t, ht, hxt⟩ := hd.get' hxi
      exact ⟨t, ht, F, gg, S, hxt⟩
    · intro σ H δ ρ' _ S
      exact ⟨xs, key S, by rw [hlen]; exact Nat.le_refl _⟩
theorem ei_T {P : List SV → (List SV → Prop) → List T → Prop} (h : EV c tl δ fun δ1 r => ∃ ts, r = .d (.tup ts) ∧ P δ1 (fun _ => True) ts) : EVI c (iTup c.B.K tl) δ P := fun σ H ρ R S q =>
  h σ H ρ _ S fun v H1 δ1 r ⟨ts, p, k⟩ S1 => by
    subst p
    obtain ⟨F, gg, S2⟩ := S1.push
    have hv : DV c.B F v (.tup ts) := S2.last
    simp only [DV] at hv
    obtain ⟨a, xs, rfl, hx, hxs⟩ := hv
    have hlen := hxs.length
    have key : ∀ {σ : L2.St} {H : Hp} {δ : List SV} {ρ' : List (V × SV)}, St c σ H δ ((ρ ++ [(V.ref a, SV.tv xs ts)]) ++ ρ') → SqT c.B.K H a xs := fun ⟨F, gg, S⟩ => by
      obtain ⟨b, e, hx, _⟩ := S.at
      cases e; exact S.fh.sqt hx
    refine ⟨a, rfl, ⟨xs, S2.fh.sqt hx⟩, q (Itt c.B.K a) H1 δ1 (.ref a, .tv xs ts) _ _ k ⟨?_, ?_, ?_⟩ ⟨F, gg, S2.drop.push ⟨a, rfl, hx, hxs⟩⟩⟩
    · intro i σ H δ ρ' hi _ S
      rw [← hlen] at hi
      exact ⟨xs, xs[i], key S, by simp [hi]⟩
    · rintro i σ H H' δ ρ' y hi _ S ⟨rfl, hh⟩
      have hxi := hh xs (key S)
      obtain ⟨F, gg, S⟩ := S
      obtain ⟨b, e, _, hd⟩ := S.at
      obtain ⟨t, ht, hxt⟩ := hd.get' hxi
      exact ⟨t, ht, F, gg, S, hxt⟩
    · intro σ H δ ρ' _ S
      exact ⟨xs, key S, by rw [hlen]; exact Nat.le_refl _⟩
/-! ### constants of the frozen heap -/
theorem ev_k {v : V} {t : T} (hk : ∀ F, DV c.B F v t) (k : Post δ (.d t)) : EV c (tC v) δ Post := fun σ H ρ Q S q => by
  obtain ⟨F, gg, S⟩ := S
  exact q v H δ _ k ⟨F, gg, S, hk F⟩
theorem ei_O {P : List SV → (List SV → Prop) → List T → Prop} (h : EV c tl δ fun δ1 r => ∃ a ts, r = .ptr a ∧ Owns δ1 a (.lst ts) ∧ P δ1 (fun δ => Owns δ a (.lst ts)) ts) : EVI c (iList c.B.K tl) δ P := fun σ H ρ R S q =>
  h σ H ρ _ S fun v H1 δ1 r ⟨a, ts, e, ow, k⟩ S1 => by
    subst e
    obtain ⟨F, gg, S2, e⟩ := S1
    have e : v = .ref a := e
    subst e
    obtain ⟨xs, hx, hxs⟩ := S2.owned ow
    have key : ∀ {σ : L2.St} {H : Hp} {δ : List SV} {ρ' : List (V × SV)}, Owns δ a (.lst ts) → St c σ H δ ρ' → ∃ xs F, SqL c.B.K H a xs ∧ DVs c.B F xs ts ∧ ∃ gg, StF c F gg σ H δ ρ' := fun o ⟨F, gg, S⟩ => by
      obtain ⟨xs, hx, hxs⟩ := S.owned o
      exact ⟨xs, F, SqL.of hx, hxs, gg, S⟩
    refine ⟨a, rfl, ⟨xs, SqL.of hx⟩, q (Itl c.B.K a) H1 δ1 (.ref a, .ptr a) _ _ k ⟨?_, ?_, ?_⟩ ⟨F, gg, S2.push (p := (V.ref a, SV.ptr a)) rfl⟩⟩
    · intro i σ H δ ρ' hi o S
      obtain ⟨xs, F, h1, h2, _⟩ := key o S
      rw [← h2.length] at hi
      exact ⟨xs, xs[i], h1, by simp [hi]⟩
    · rintro i σ H H' δ ρ' y hi o S ⟨rfl, hh⟩
      obtain ⟨xs, F, h1, h2, gg, S2⟩ := key o S
      obtain ⟨t, ht, hxt⟩ := h2.get' (hh xs h1)
      exact ⟨t, ht, F, gg, S2, hxt⟩
    · intro σ H δ ρ' o S
      obtain ⟨xs, F, h1, h2, _⟩ := key o S
      exact ⟨xs, h1, by rw [h2.length]; exact Nat.le_refl _⟩
theorem ei_R {P : List SV → (List SV → Prop) → List T → Prop} (h : EVA c ta δ fun δ1 rs => ∃ n : Nat, rs = [.d (.int n)] ∧ (n : Int) < 2 ^ 62 ∧ P δ1 (fun _ => True) ((List.range n).map fun k => T.int (k : Nat))) : EVI c (iRng1 ta) δ P := fun σ H ρ R S q =>
  h σ H ρ _ S fun vs H1 δ1 rs ⟨n, e, hn, k⟩ hl S1 => by
    subst e
    obtain ⟨rfl, S2⟩ := one_int hl S1
    obtain ⟨F, gg, S2⟩ := S2
    refine ⟨n, rfl, by omega, hn, q (Itr 0 ((n : Int)).toNat) H1 δ1 (.int n, .d (.int n)) _ _ k ⟨?_, ?_, ?_⟩ ⟨F, gg, S2.push (p := (V.int n, SV.d (.int n))) (show DV c.B F (.int n) (.int n) by simp only [DV])⟩⟩
    · intro i σ H δ ρ' hi _ _; show i < ((n : Int)).toNat; simpa using hi
    · rintro i σ H H' δ ρ' y hi _ S ⟨rfl, rfl⟩
      refine ⟨.int (i : Nat), ?_, S.flat (by rw [Int.zero_add]; rfl)⟩
      have : i < n := by simpa using hi
      simp [this]
    · intro σ H δ ρ' _ _; show ((n : Int)).toNat ≤ _; simp
theorem St.frz {σ : L2.St} {H : Hp} {ρ : List (V × SV)} {i : Nat} {a : Addr} {o : OW} (S : St c σ H δ ρ) {t : T} (h : δ[i]? = some (.own a o)) (hf : o.fr = some t) : St c σ H (δ.set i (.d t)) ρ := by
  obtain ⟨F, gg, S⟩ := S
  obtain ⟨ex, hg, h0, ho⟩ := S.sl i _ h
  obtain ⟨fa, u, hu⟩ := S.gn a _ hg
  have e3 : Ex F (upd F a u) := Ex.new fa
  have hd : DV c.B (upd F a u) (.ref a) t := by
    cases o with
    | lst ts => cases hf; obtain ⟨xs, h1, h2⟩ := ho; rw [hu] at h1; cases h1; simp only [DV]; exact ⟨a, xs, rfl, upd_same, DVs.mono e3 _ _ h2⟩
    | dK ks vs => cases hf; obtain ⟨xs, h1, h3, h2⟩ := ho; rw [hu] at h1; cases h1; simp only [DV]; exact ⟨a, xs, rfl, upd_same, h3, DVs.mono e3 _ _ h2⟩
    | dN ks vs => cases hf; obtain ⟨xs, h1, h3, h4, h2⟩ := ho; rw [hu] at h1; cases h1; simp only [DV]; exact ⟨a, xs, rfl, upd_same, h3, DVs.mono e3 _ _ h4, DVs.mono e3 _ _ h2⟩
    | ins C dx ns ts => cases hf; obtain ⟨xs, h1, h3, h2⟩ := ho; rw [hu] at h1; cases h1; simp only [DV]; exact ⟨a, dx, xs, rfl, upd_same, h3, DVs.mono e3 _ _ h2⟩
    | lk ob es ks vs => cases hf
    | txs ks => cases hf
    | ex u => cases hf
  have hk : ∀ b l, l ≠ Loc.slot i → gg b = some l → (if b = a then none else gg b) = some l := fun b l n e => by
    have : b ≠ a := fun z => by rw [z, hg] at e; cases e; exact n rfl
    rw [if_neg this]; exact e
  refine ⟨upd F a u, fun b => if b = a then none else gg b, ⟨S.fh.in1 hu, S.f0.trans e3, fun b o e => ?_, S.h0, by rw [List.length_set]; exact S.len, fun j s e => ?_, fun n p e => (S.tm n p e).mono e3 (fun b h => hk b _ (by intro z; cases z) h) (fun _ _ => rfl), fun b l e => ?_, fun b e => ?_, S.tbZ hg⟩⟩
  · have : b ≠ a := fun z => by rw [z, h0] at e; cases e
    rw [upd_ne this]; exact S.fn b o e
  · by_cases q : j = i
    · subst q
      have hj : j < δ.length := by
        have := (List.getElem?_eq_some_iff.mp e).1
        rwa [List.length_set] at this
      rw [List.getElem?_set_self hj] at e
      cases e
      exact ⟨_, ex, hd⟩
    · rw [List.getElem?_set_ne (Ne.symm q)] at e
      exact (S.sl j s e).mono e3 (fun b h => hk b _ (by intro z; injection z with z; exact q z) h) (fun _ _ => rfl)
  · by_cases q : b = a
    · rw [if_pos q] at e; cases e
    · rw [if_neg q] at e
      rw [upd_ne q]; exact S.gn b l e
  · obtain ⟨q1, q2, q3⟩ := S.an b e
    have : b ≠ a := fun z => by obtain ⟨o, z3⟩ := q3; rw [z, h0] at z3; cases z3
    rw [upd_ne this]; exact ⟨q1, q2, q3⟩
theorem es_frz {t : TS} {i : Nat} {a : Addr} {o : OW} {u : T} (h : δ[i]? = some (.own a o)) (hf : o.fr = some u) (k : ES c t (δ.set i (.d u)) R) : ES c t δ R := fun σ H ρ D S M => k σ H ρ D (S.frz h hf) M
end
end DL

namespace DL
open PySem L2

/-! ### d.items() of a dict with tuple keys -/
def ItN (B : Bs) (d : Addr) (o : Obj) (es : List EN) : It :=
  ⟨fun i H => H d = some (.frz o (hoN B d es)) ∧ i < es.length, fun i H x H' => ∃ T k b v, es[i]? = some (k, b, v) ∧ x = .ref T ∧ H T = none ∧ H' = upd H T (.tup [.ref b, v]), fun i H => H d = some (.frz o (hoN B d es)) ∧ es.length ≤ i⟩
theorem pn_get : ∀ {es : List EN} {xs : List (NestedKey × Addr × Value)}, PN es xs → ∀ {i : Nat} {k : NestedKey} {b : Addr} {v : V}, es[i]? = some (k, b, v) → ∃ u, xs[i]? = some (k, b, u) ∧ RelV v u
  | _, _, .nil, i, _, _, _, e => by simp at e
  | _, _, .cons (b := y) r rs, 0, _, _, _, e => by
    simp at e; subst e
    obtain ⟨r1, r2, r3⟩ := r
    obtain ⟨k', b', u⟩ := y
    have r1 : _ = k' := r1
    have r2 : _ = b' := r2
    subst r1; subst r2
    exact ⟨u, rfl, r3⟩
  | _, _, .cons r rs, i + 1, _, _, _, e => by
    rw [List.getElem?_cons_succ] at e ⊢
    exact pn_get rs e
theorem frzN {X : Cx} {pins : List (Addr × Obj)} {σ : L2.St} {H : Hp} {s : Shared} {d : Addr} {o : Obj} {es : List EN} (I : Inv X pins σ H s) (h : H d = some (.frz o (hoN (Bx X) d es))) :
    (d == sysModules) = false ∧ ∃ (es' : Array DictEntry) (ep : Nat) (xs : List (NestedKey × Addr × Value)), o.data = .dict es' ep ∧ s.heap.DictRaw d es' ep ∧ es'.size = es.length ∧ PN es xs ∧ es'.toList = xs.map (entryOfKey (nestedKind X.prog X.w)) := by
  obtain ⟨ho, ⟨hz, hd, _, xs, pn, o', es', ep, h1, h2, h3, h4, h5⟩, _, _⟩ := I.hok d _ h
  rw [ho] at h1
  cases h1
  refine ⟨hd, es', ep, xs, h3, ⟨o, ho, h2, h3⟩, ?_, pn, h4⟩
  have l1 := congrArg List.length h4
  rw [List.length_map, ← Paired.length pn] at l1
  simpa using l1
theorem turn_itemsN {B : Bs} {d : Addr} {o : Obj} {es : List EN} {es0 : Array DictEntry} {ep : Nat} {elts : List Expr} {kk : Nat} {tpos : Pos} (it : Addr) (hod : o.data = .dict es0 ep) :
    Turn B.P B.w B.K (.Tuple elts kk tpos) (ItN B d o es) [it] it (fun i h => ∃ ok ov, IsItemIter h it d i es.length ep ok ov) where
  mem := by simp
  obj := fun i h st b hb => by
    have e : b = it := by simpa using hb
    subst e
    obtain ⟨ok, ov, e⟩ := st
    exact ⟨_, e, fun v z => nomatch z⟩
  keep := fun i h h' st k => let ⟨ok, ov, e⟩ := st; ⟨ok, ov, k it (by simp) _ e⟩
  item := by
    intro X hP hw hK hc i pins s σ H E I hf st hg
    obtain ⟨hd, hi⟩ := hg
    have eB : B = Bx X := by unfold Bx; rw [hP, hw, hK]
    rw [eB] at hd ⊢
    obtain ⟨hs, es', ep', xs, hdt, raw, hsz, pn, hl⟩ := frzN I hd
    obtain ⟨e1, e2⟩ := L2.dict_ep hod hdt
    obtain ⟨ok, ov, he⟩ := st
    have hlt : it < s.heap.objs.size := Heap.lt_size he
    have hi' : i < es'.size := by rw [hsz]; exact hi
    obtain ⟨⟨k, b, v⟩, hkv⟩ : ∃ p, es[i]? = some p := ⟨es[i], List.getElem?_eq_getElem hi⟩
    obtain ⟨u, hx, r3⟩ := pn_get pn hkv
    have hent : es'[i] = entryOfKey (nestedKind X.prog X.w) (k, b, u) := by
      have z : es'.toList[i]? = some (entryOfKey (nestedKind X.prog X.w) (k, b, u)) := by rw [hl, List.getElem?_map, hx]; rfl
      have z2 : es'.toList[i]? = some es'[i] := by rw [Array.getElem?_toList]; simp [hi']
      rw [z2] at z; injection z
    show wpAny (model X.prog X.w) X.A _ _ E s
    rw [← hsz, ← e2] at he
    refine wpAny_pyNext_items_item_raw he raw hi' fun h' ho hT hz hk => ?_
    rw [hent] at ho hT
    refine ⟨_, rfl, wpAny_letOwnedTupleGo_items (s := { s with heap := h' }) ho fun h'' he' sb => ?_⟩
    have hT2 : h''.get? s.heap.objs.size = some { cls := .type "tuple", data := .seq #[.ref b, u] } := (sb.2 _ (Nat.ne_of_gt hlt)).trans hT
    have new : ObjOk X.prog X.w (upd H s.heap.objs.size (.tup [.ref b, v])) h'' s.heap.objs.size (.tup [.ref b, v]) :=
      ⟨by show 2 ≤ sizeLine; decide, [.ref b, u], .cons rfl (.cons r3 .nil), ⟨_, hT2, rfl, _, rfl⟩⟩
    have I1 : Inv X pins σ (upd H s.heap.objs.size (.tup [.ref b, v])) { s with heap := h'' } :=
      I.turnedNew (t' := s.toks) (ch := [it]) (fun b ob hb e => (sb.2 b (by simpa using hb)).trans (hk b ob (by simpa using hb) e)) hf (Nat.le_refl _) new
    refine ⟨.ref s.heap.objs.size, _, I1, rfl, ⟨_, k, b, v, hkv, rfl, I.hok.fresh (Nat.le_refl _), rfl⟩, ⟨.ref b, u, ?_⟩, fun b hb => ?_⟩
    · rw [hsz, e2] at he'; exact he'
    · have e : b = it := by simpa using hb
      rw [e, upd_ne (Nat.ne_of_lt hlt)]
      exact (hf it (by simp)).1
  done := by
    intro X hP hw hK hc i pins s σ H E I hf st hg
    obtain ⟨hd, hi⟩ := hg
    have eB : B = Bx X := by unfold Bx; rw [hP, hw, hK]
    rw [eB] at hd ⊢
    obtain ⟨f0, f1, f2, f3, f4, f5⟩ := hf it (by simp)
    obtain ⟨hs, es', ep', xs, hdt, raw, hsz, pn, hl⟩ := frzN I hd
    obtain ⟨e1, e2⟩ := L2.dict_ep hod hdt
    obtain ⟨ok, ov, he⟩ := st
    show wpAny (model X.prog X.w) X.A _ _ E s
    rw [← hsz, ← e2] at he
    exact wpAny_pyNext_items_end_raw (I.ok.hd hc) he raw (by omega) fun h' eb => ⟨rfl, I.turned (t' := s.toks) (fun b ob hb e => eb b ob hb e) f0 f1 f3 f4 f5⟩
  self := fun A i s Q E st h => let ⟨_, _, e⟩ := st; PySem.W.kcp_self e h
end DL

namespace DL
open PySem L2

def iItemsN (B : Bs) (td : TE) : TI := fun σ H R => td σ H fun x H1 => ∃ d o es, x = .ref d ∧ H1 d = some (.frz o (hoN B d es)) ∧ R (ItN B d o es) H1
theorem pi_itemsN {X : Cx} {e : Expr} {td : TE} {apos cpos : Pos} {elts : List Expr} {kk : Nat} {tpos : Pos} (he : PE X e td) (hbase : attributeBase e "items" X.env (eval e X.env) = eval e X.env := by rfl) (hline : (apos.endLine == cpos.line) = true := by rfl) :
    PI X (.Tuple elts kk tpos) (.Call (.Attribute e "items" apos) [] [] cpos) (iItemsN (Bx X) td) := by
  refine ⟨fun pins s σ H R I h => ?_⟩
  refine wpAny_Call_method (T := "dict") (id := "dict.items") hbase rfl hline F.plainAttrs_dict F.slot_dict_items F.type_dict_items (thn (he.run pins s σ H _ I h) fun u s1 ⟨x, H1, I1, rx, d, o, es, ex, hd, q⟩ => ?_)
  subst ex
  obtain rfl : u = Value.ref d := rx
  obtain ⟨hs, es', ep, xs, hdt, raw, hsz, pn, hl⟩ := frzN I1 hd
  refine ⟨raw.typeIs, ?_, ?_⟩
  · obtain ⟨o', h1, h2, _⟩ := raw
    exact fun a e => by cases e; exact ⟨o', h1, h2.2.1⟩
  have I2 : Inv X pins σ H1 { s1 with heap := s1.heap.push { cls := .type "dict_items", data := .fields #[.ref d] } } := I1.kept (t' := s1.toks) fun b ob q => Heap.get?_push_of_some _ q
  have raw2 : (s1.heap.push { cls := .type "dict_items", data := .fields #[.ref d] }).DictRaw d es' ep := raw.at fun o h => Heap.get?_push_of_some _ h
  have fin : wpAny (model X.prog X.w) X.A (pyIter (.ref s1.heap.objs.size)) (PIE X pins σ (.Tuple elts kk tpos) R) X.xe { s1 with heap := s1.heap.push { cls := .type "dict_items", data := .fields #[.ref d] } } := by
    refine wpAny_pyIter_items_raw (d := d) ⟨_, Heap.get?_push_size _ rfl, rfl, rfl⟩ raw2 (pi_one (tk := s1.toks) I2 _ (turn_itemsN (B := Bx X) _ hdt) ⟨.none, .none, ?_⟩ q)
    rw [hsz]
    exact Heap.get?_push_size _ rfl
  show wpAny _ _ (callWith cpos (.builtin "dict.items") [.ref d] [] []) _ X.xe s1
  exact method_meetsIn F.slot_dict_items F.entry_dict_items rfl (PySem.evalArgs_none ⟨rfl, raw.typeIs, F.args_dict_items_1 _, _, meets_dict_items_raw d hs, ⟨es', ep, raw⟩, fin⟩)
end DL

namespace DL
open PySem L2

section
variable {c : Cn} {δ : List SV} {Post : List SV → SV → Prop} {te td : TE}
/-- the pairs of a key and a value -/
def pairT : List T → List T → List T
  | k :: ks, v :: vs => .tup [k, v] :: pairT ks vs
  | _, _ => []
theorem pairT_map {α β : Type} (f : α → T) (g : β → T) : ∀ m : List (α × β), pairT (m.map fun p => f p.1) (m.map fun p => g p.2) = m.map fun p => .tup [f p.1, g p.2]
  | [] => rfl
  | p :: m => by rw [List.map_cons, List.map_cons, pairT, pairT_map f g m]; rfl
theorem pairT_get {B : Bs} {F : Hp} : ∀ {es : List EN} {ks vs : List T}, DVs B F (es.map fun e => V.ref e.2.1) ks → DVs B F (es.map fun e => e.2.2) vs → (pairT ks vs).length = es.length ∧ ∀ {i : Nat} {k : NestedKey} {b : Addr} {v : V}, es[i]? = some (k, b, v) → ∃ t u, (pairT ks vs)[i]? = some (.tup [t, u]) ∧ DV B F (.ref b) t ∧ DV B F v u
  | [], ks, vs, h1, h2 => by
    cases ks with
    | nil => exact ⟨rfl, fun e => by simp at e⟩
    | cons k ks => have := h1.length; simp at this
  | e :: es, ks, vs, h1, h2 => by
    cases ks with
    | nil => have := h1.length; simp at this
    | cons k ks =>
    cases vs with
    | nil => have := h2.length; simp at this
    | cons w vs =>
    rw [List.map_cons] at h1 h2
    obtain ⟨a1, a2⟩ := h1.uncons
    obtain ⟨b1, b2⟩ := h2.uncons
    obtain ⟨z1, z2⟩ := pairT_get a2 b2
    refine ⟨by rw [pairT, List.length_cons, List.length_cons, z1], fun {i k b v} q => ?_⟩
    cases i with
    | zero => simp at q; subst q; exact ⟨_, _, rfl, a1, b1⟩
    | succ i => rw [List.getElem?_cons_succ] at q; exact z2 q
theorem ei_itemsN {P : List SV → (List SV → Prop) → List T → Prop} (h : EV c td δ fun δ1 r => ∃ a ob es ks vs, r = .ptr a ∧ Owns δ1 a (.lk ob es ks vs) ∧ P δ1 (fun δ => Owns δ a (.lk ob es ks vs)) (pairT ks vs)) : EVI c (iItemsN c.B td) δ P := fun σ H ρ R S q =>
  h σ H ρ _ S fun v H1 δ1 r ⟨a, ob, es, ks, vs, e, ow, k⟩ S1 => by
    subst e
    obtain ⟨F, gg, S2, e⟩ := S1
    have e : v = .ref a := e
    subst e
    obtain ⟨hx, _, hk, hv⟩ := S2.owned ow
    have hl := (pairT_get hk hv).1
    refine ⟨a, ob, es, rfl, hx, q (ItN c.B a ob es) H1 δ1 (.ref a, .ptr a) _ _ k ⟨?_, ?_, ?_⟩ ⟨F, gg, S2.push (p := (V.ref a, SV.ptr a)) rfl⟩⟩
    · rintro i σ H δ ρ' hi o ⟨F, gg, S⟩
      exact ⟨(S.owned o).1, by rw [← hl]; exact hi⟩
    · rintro i σ H H' δ ρ' y hi o ⟨F, gg, S⟩ ⟨p, k, b, v, hp, rfl, hn, rfl⟩
      obtain ⟨_, _, hk, hv⟩ := S.owned o
      obtain ⟨t, u, ht, d1, d2⟩ := (pairT_get hk hv).2 hp
      obtain ⟨S3, e3⟩ := S.newTup (u := .tup [.ref b, v]) hn
      exact ⟨_, ht, _, gg, S3, DV.tup_ (SqT.of upd_same) (.cons (d1.any e3) (.cons (d2.any e3) .nil))⟩
    · rintro σ H δ ρ' o ⟨F, gg, S⟩
      exact ⟨(S.owned o).1, by rw [hl]; exact Nat.le_refl _⟩
/-- a dict that slot j owns is locked while e runs -/
theorem ev_lock (j : Nat) {a : Addr} {ks vs : List T} (hj : δ[j]? = some (.own a (.dN ks vs))) (h : ∀ ob es, EV c te (δ.set j (.own a (.lk ob es ks vs))) fun δ1 r => δ1[j]? = some (.own a (.lk ob es ks vs)) ∧ Post (δ1.set j (.own a (.dN ks vs))) r) : EV c (tLockE te) δ Post := fun σ H ρ Q S q => by
  obtain ⟨F, gg, S⟩ := S
  obtain ⟨_, hg, h0, es, h1, h2, h3, h4⟩ := S.sl j _ hj
  refine ⟨a, _, h1, ?_, fun od => ?_⟩
  · exact True.intro
  refine h od es σ (upd H a (.frz od (hoN c.B a es))) ρ _ ⟨F, gg, S.updO (o' := .lk od es ks vs) hj ⟨upd_same, h2, h3, h4⟩⟩ fun v H' δ' r ⟨hj', k⟩ ⟨F', g', S', ht⟩ => ?_
  obtain ⟨_, hg', h0', h1', h2', h3', h4'⟩ := S'.sl j _ hj'
  refine ⟨h1', q v _ _ r k ⟨F', g', S'.updO (o' := .dN ks vs) (u := hoN c.B a es) hj' ⟨es, upd_same, h2', h3', h4'⟩, ?_⟩⟩
  cases r with
  | d t => exact ht
  | own b o =>
    obtain ⟨r1, r2, r3, r4⟩ := ht
    refine ⟨r1, r2, r3, r4.mono (Ex.refl F') (upd_ne fun z => ?_)⟩
    subst z; rw [hg'] at r2; cases r2
  | ptr b => exact ht
  | lv _ _ => exact ht
  | tv _ _ => exact ht
  | zv _ _ _ _ _ => exact ht
  | nst b ns => exact ⟨ht.1, ht.2.mono (Ex.refl F') (fun _ h => h) fun b hb => upd_ne fun z => by subst z; rw [hg'] at hb; cases hb⟩
  | no => trivial
  | arg _ _ => exact ht
theorem es_seqJ {t u : TS} {R : DEnds} (J : List SV → Prop) (h : ES c t δ { R with nx := J }) (k : ∀ δ, J δ → ES c u δ R) : ES c (tSeq t u) δ R :=
  es_seq (h.imp (fun δ h => k δ h) (fun _ _ h => h) (fun _ h => h) (fun _ h => h))
theorem ev_chainP {ta tb tc : TE} {f f' : R2} (h : EV c ta δ fun δ1 r1 => ∃ s1, Pu r1 s1 ∧ EV c tb δ1 fun δ2 r2 => ∃ t2, r2 = .d t2 ∧ ∃ b : Bool, (∀ Post, Post δ2 (.d (.bl b)) → OP2 c f δ2 s1 (.d t2) Post) ∧
    if b = true then EV c tc δ2 fun δ4 r4 => ∃ s4, Pu r4 s4 ∧ OP2 c f' δ4 (.d t2) s4 Post else Post δ2 (.d (.bl false))) : EV c (tChain f f' ta tb tc) δ Post :=
  ev_chain (h.imp fun δ1 r1 ⟨s1, p, k⟩ => ⟨s1, p, k.imp fun δ2 r2 ⟨t2, e, b, ho, k2⟩ => ⟨t2, e, fun δ3 r => r = .d (.bl b) ∧ δ3 = δ2, ho _ ⟨rfl, rfl⟩, fun δ3 r ⟨e1, e2⟩ => ⟨b, e1, e2, k2⟩⟩⟩)
/-! ### a text in a tuple or list of texts -/
theorem inV_strs (z : Str) (zs : List Str) : inV (.str z) (zs.map V.str) = decide (z ∈ zs) := by
  unfold inV
  rw [List.any_map]
  by_cases h : z ∈ zs
  · rw [decide_eq_true h, List.any_eq_true]; exact ⟨z, h, by simp [eqV]⟩
  · rw [decide_eq_false h, List.any_eq_false]
    intro y hy
    have : y ≠ z := fun e => h (e ▸ hy)
    simpa [eqV] using this
theorem flat_strs (zs : List Str) : (zs.map V.str).all flatV = true := by rw [List.all_map, List.all_eq_true]; intro _ _; rfl
theorem uni_ST {z : Str} {zs : List Str} (k : Post δ (.d (.bl (!decide (z ∈ zs))))) : OP2 c (uIn c.B true) δ (.d (.str z)) (.d (.tup (zs.map .str))) Post := o2_l fun σ H ρ x y Q S q => by
  obtain ⟨F, g, S2, h1, h2⟩ := S.top2
  obtain rfl : x = .str z := DV.str_ (B := c.B) (F := F) h1
  have h2 : DV c.B F y (.tup (zs.map .str)) := h2
  simp only [DV] at h2
  obtain ⟨a, xs, rfl, hx, hd⟩ := h2
  rw [dv_strs hd] at hx
  exact ⟨a, _, rfl, .inr (S2.fh.sqt hx), rfl, flat_strs zs, by rw [inV_strs]; exact q _ _ δ _ k (St.flat ⟨F, g, S2⟩ rfl)⟩
/-- an assignment that stays after a call of a def without answer -/
theorem ev_callPn {S : List T → (RT → Prop) → Prop} {ta : TA} {E : XK} (h : EVA c ta δ fun δ1 rs => ∃ ts, rs = ts.map .d ∧ S ts fun r => RTp Post δ1 r) : EV c (tCall (spP c.B S) [] E ta) δ Post :=
  ev_callP fun σ H ρ Q S0 q => h σ H ρ Q S0 fun vs H' δ' rs ⟨ts, e, hS⟩ => q vs H' δ' rs ⟨ts, e, _, hS, fun r h => h⟩
end
end DL

namespace DL
open PySem L2
/-! ### the same rules, with the frame's program told (within comprehensions) -/
section
variable {X : Cx} {K : PySem.W.Frag} {B : Bs} {tg l e : Expr} {tl ta te : TE} {tx : TA} {f : Str} {pos : Pos}
theorem ix_B (B : Bs) (h : Bx X = B) (hu : X.A.units + 64 < cLine) : IxR X (uIx B) := h ▸ ix_U hu
theorem op_inB (B : Bs) (h : Bx X = B) (hu : X.A.units + 64 < cLine) : OpR X (compareOp .In) (uIn B false) := h ▸ op_uIn hu
theorem op_notInB (B : Bs) (h : Bx X = B) (hu : X.A.units + 64 < cLine) : OpR X (compareOp .NotIn) (uIn B true) := h ▸ op_uNotIn hu
theorem set_B (B : Bs) (h : Bx X = B) (hu : X.A.units + 64 < cLine) : PSet X (uSet B) := h ▸ set_U hu
theorem call_lenB (B : Bs) (h : Bx X = B) (hu : X.A.units + 64 < cLine) : CallR X (.builtin "len") (uLen B) := h ▸ call_uLen
theorem op_addB (B : Bs) (h : Bx X = B) : OpR X (binaryOp .Add) (uAdd B.K) := by subst h; exact op_uAdd
theorem op_eqB (B : Bs) (h : Bx X = B) (hu : X.A.units + 64 < cLine) : OpR X (compareOp .Eq) (rEqD B.K) := by subst h; exact op_eqD hu
theorem op_neB (B : Bs) (h : Bx X = B) (hu : X.A.units + 64 < cLine) : OpR X (compareOp .NotEq) (rNeD B.K) := by subst h; exact op_neD hu
theorem call_sortedB (B : Bs) (h : Bx X = B) (hu : X.A.units + 66 < cLine) : CallR X (.builtin "sorted") (rSorted B) := h ▸ call_sorted' hu
theorem call_listB (B : Bs) (h : Bx X = B) : CallR X (.type "list") (rList1 B) := h ▸ call_list'
theorem call_tupleB (B : Bs) (h : Bx X = B) : CallR X (.type "tuple") (rTuple1 B) := h ▸ call_tuple'
theorem call_maxB (B : Bs) (h : Bx X = B) (hc : X.calm = true) : CallR X (.builtin "max") (rMax B.K) := by subst h; exact cr_max hc
theorem call_allB (B : Bs) (h : Bx X = B) (hc : X.calm = true) : CallR X (.builtin "all") (rAll B.K) := by subst h; exact cr_all hc
theorem call_isiB (B : Bs) (h : Bx X = B) : CallR X (.builtin "isinstance") (rIsi B.K) := by subst h; exact call_isi
theorem mt_joinB (B : Bs) (h : Bx X = B) : MtR X "str.join" (rJoin1 B) := h ▸ mt_join'
theorem sl_B (B : Bs) (h : Bx X = B) : SlR X (uSl B) := h ▸ sl_u
theorem pi_listB (B : Bs) (h : Bx X = B) (hl : PE X l tl) : PI X tg l (iList B.K tl) := by subst h; exact pi_list hl
theorem pi_tupB (B : Bs) (h : Bx X = B) (hl : PE X l tl) : PI X tg l (iTup B.K tl) := by subst h; exact pi_tup hl
theorem pe_fldB (B : Bs) (h : Bx X = B) (he : PE X e ta) (hb : attributeBase e f X.env (eval e X.env) = eval e X.env) : PE X (.Attribute e f pos) (tFld B.K ta f) := by subst h; exact pe_fld he hb
theorem pg_tupB {es : List Expr} {k : Nat} {t : TGs} (B : Bs) (h : Bx X = B) (n : Nat) (hc : X.calm = true) (hp : PGs X es t) (hn : (assignEach es X.env).length = n := by rfl) (hst : (assignEach es X.env).findIdx? (·.1) = none := by rfl) : PG X (.Tuple es k pos) (gTup B.K n t) := by subst h; exact pg_tup hc hp hn hst
end
end DL

namespace DL
open PySem L2
/-! ### owned lists given to defs that only read, and that answer with a flat value -/
inductive AsD (δ : List SV) : SV → T → Prop
  | d {t : T} : AsD δ (.d t) t
  | o {a : Addr} {o : OW} {t : T} (h : Owns δ a o) (hf : o.fr = some t) : AsD δ (.ptr a) t
inductive AsDs (δ : List SV) : List SV → List T → Prop
  | nil : AsDs δ [] []
  | cons {s : SV} {t : T} {ss : List SV} {ts : List T} (h : AsD δ s t) (r : AsDs δ ss ts) : AsDs δ (s :: ss) (t :: ts)
def flatT : T → Prop
  | .non => True
  | .bl _ => True
  | .int _ => True
  | .str _ => True
  | _ => False
theorem flatT.dv {B : Bs} {F F' : Hp} : ∀ {t : T} {v : V}, flatT t → DV B F v t → DV B F' v t
  | .non, _, _, h => by simp only [DV] at h ⊢; exact h
  | .bl _, _, _, h => by simp only [DV] at h ⊢; exact h
  | .int _, _, _, h => by simp only [DV] at h ⊢; exact h
  | .str _, _, _, h => by simp only [DV] at h ⊢; exact h
  | .raw _, _, h, _ => h.elim
  | .fn _, _, h, _ => h.elim
  | .lst _, _, h, _ => h.elim
  | .rl _, _, h, _ => h.elim
  | .dN _ _, _, h, _ => h.elim
  | .dK _ _, _, h, _ => h.elim
  | .tup _, _, h, _ => h.elim
  | .obj _ _ _, _, h, _ => h.elim
end DL

namespace DL
open PySem L2
/-! ### new lists and dicts that stay owned on their way into a name -/
section
variable {c : Cn} {δ : List SV} {Post : List SV → SV → Prop} {ta : TE} {tr : TA}
theorem StF.keep {F : Hp} {g : Addr → Option Loc} {σ : L2.St} {H : Hp} {ρ : List (V × SV)} {a : Addr} {o : OW} {v : V} (S : StF c F g σ H δ ρ) (h : TopOk c F g H v (.own a o)) : St c σ H δ (ρ ++ [(v, .own a o)]) := by
  obtain ⟨e, h1, h2, h3⟩ := h
  exact ⟨F, _, (S.retag (l := .tmp ρ.length) h1).push (p := (v, .own a o)) ⟨e, if_pos rfl, h2, h3⟩⟩
theorem ea_consK {P : List SV → List SV → Prop} (h : EV c ta δ fun δ1 r => ∃ a o, r = .own a o ∧ EVA c tr δ1 fun δ2 rs => P δ2 (.own a o :: rs)) : EVA c (tCons ta tr) δ P := fun σ H ρ Q S q =>
  h σ H ρ _ S fun v H' δ' r ⟨a, o, e, k⟩ ⟨F, g, S1, ht⟩ => by
    subst e
    exact k σ H' (ρ ++ [(v, .own a o)]) _ (S1.keep ht) fun vs H2 δ2 rs k2 hl S2 => q (v :: vs) H2 δ2 (.own a o :: rs) k2 (by simp [hl]) (by
      rw [List.zip_cons_cons]
      rw [List.append_assoc] at S2; exact S2)
theorem St.popO {σ : L2.St} {H : Hp} {ρ : List (V × SV)} {w : V} {a : Addr} {o : OW} (S : St c σ H δ (ρ ++ [(w, .own a o)])) : St1 c σ H δ ρ w (.own a o) := by
  obtain ⟨F, g, S⟩ := S
  obtain ⟨ev, h1, h2, h3⟩ := S.last
  have ev : w = .ref a := ev
  subst ev
  have S0 := S.drop
  refine ⟨F, fun b => if b = a then some .top else g b, ⟨S0.fh, S0.f0, S0.fn, S0.h0, S0.len, fun i s e => (S0.sl i s e).at a (by rw [h1]; intro z; cases z), fun n q e => (S0.tm n q e).at a (fun z => ?_), fun b l' e => ?_, S0.an, S0.tbIf h1⟩, rfl, if_pos rfl, h2, h3⟩
  · rw [h1] at z
    injection z with z; injection z with z
    have := (List.getElem?_eq_some_iff.mp e).1
    omega
  · by_cases q : b = a
    · rw [q]; exact S0.gn a _ h1
    · rw [if_neg q] at e; exact S0.gn b l' e
/-- a, b = data, a new list or dict -/
theorem es_parO {i j : Nat} {ta : TA} {R : DEnds} (hij : i ≠ j) (h : EVA c ta δ fun δ1 rs => ∃ t a o, rs = [SV.d t, SV.own a o] ∧ R.nx ((δ1.set i (.d t)).set j (.own a o))) : ES c (tPar i j ta) δ R := fun σ H ρ D S M =>
  h σ H ρ _ S fun vs H1 δ1 rs ⟨t, a, o, e, k⟩ hl S1 => by
    subst e
    match vs, hl, S1 with
    | [v, w], hl, S1 =>
      have S1 : St c σ H1 δ1 ((ρ ++ [(v, .d t)]) ++ [(w, .own a o)]) := by rw [List.append_assoc]; exact S1
      refine ⟨v, w, rfl, M.nx _ _ _ k ?_⟩
      obtain ⟨F, g, S2⟩ : St c (σ.set j (some w)) H1 (δ1.set j (.own a o)) (ρ ++ [(v, .d t)]) := S1.popO.store
      have S3 : St c ((σ.set j (some w)).set i (some v)) H1 ((δ1.set j (.own a o)).set i (.d t)) ρ := St1.store ⟨F, g, S2.drop, S2.last⟩
      rw [List.set_comm _ _ (Ne.symm hij), List.set_comm _ _ (Ne.symm hij)] at S3
      exact S3
end
section
variable {c : Cn} {δ : List SV} {Post : List SV → SV → Prop}
/-- return a list or dict that a name owns: the name gives it up -/
theorem ev_take {i : Nat} {a : Addr} {o : OW} (h : δ[i]? = some (.own a o)) (k : Post (δ.set i .no) (.own a o)) : EV c (tVar i) δ Post := fun σ H ρ Q S q => by
  obtain ⟨F, g, S⟩ := S
  obtain ⟨ex, h1, h2, h3⟩ := S.sl i _ h
  refine ⟨.ref a, St.join ex, q _ H (δ.set i .no) _ k ⟨F, fun b => if b = a then some .top else g b, ⟨S.fh, S.f0, S.fn, S.h0, by rw [List.length_set]; exact S.len, fun j s e => ?_, fun n p e => (S.tm n p e).at a (by rw [h1]; intro z; cases z), fun b l' e => ?_, S.an, S.tbIf h1⟩, rfl, if_pos rfl, h2, h3⟩⟩
  · by_cases z : j = i
    · subst z
      have hj : j < δ.length := by
        have := (List.getElem?_eq_some_iff.mp e).1
        rwa [List.length_set] at this
      rw [List.getElem?_set_self hj] at e
      cases e; trivial
    · rw [List.getElem?_set_ne (Ne.symm z)] at e
      exact (S.sl j s e).at a (by rw [h1]; intro y; injection y with y; injection y with y; exact z y.symm)
  · by_cases q : b = a
    · rw [q]; exact S.gn a _ h1
    · rw [if_neg q] at e; exact S.gn b l' e
end
end DL

namespace DL
open PySem L2

section
variable {c : Cn} {δ : List SV} {Post : List SV → SV → Prop}
/-! ### list * int -/
theorem o2_rep {s1 : SV} {ts : List T} {n : Nat} (l : LstV δ s1 ts) (hz : ts.length * n ≤ sizeLine) (hn : n < 2 ^ 62) (k : ∀ p, Post δ (.own p (.lst (List.replicate n ts).flatten))) : OP2 c rRep δ s1 (.d (.int n)) Post := fun σ H ρ x y Q S q => by
  obtain ⟨F, g, S2, h1, h2⟩ := S.top2
  obtain ⟨a, xs, rfl, ha, da⟩ := l.at S2 h1
  have hy : y = .int n := DV.int_ (B := c.B) (F := F) h2
  have e : (n : Int).toNat = n := by omega
  refine ⟨a, n, xs, rfl, hy, ha, by omega, by omega, by rw [e, da.length]; exact hz, fun p hp => ?_⟩
  rw [e]
  refine q _ _ δ _ (k p) (S2.newLst hp ?_)
  clear hz hn hy e h2 k S
  induction n with
  | zero => exact .nil
  | succ n ih => rw [List.replicate_succ, List.replicate_succ, List.flatten_cons, List.flatten_cons]; exact da.append ih
/-! ### {k: v} -/
def intA : AtomEnc Int := ⟨fun n => .inl n, fun a b h => by injection h⟩
theorem ev_disp1 {α β : Type} [DecidableEq α] (ke : AtomEnc α) (ev : β → T) {tk tv : TE} (h : EV c tk δ fun δ1 r => ∃ k : α, r = .d (tK (ke.kk k)) ∧ EV c tv δ1 fun δ2 r2 => ∃ x : β, Pu r2 (.d (ev x)) ∧ ∀ p, Post δ2 (.own p (.K ke ev [(k, x)]))) : EV c (tDisp [(tk, tv)]) δ Post := fun σ H ρ Q S q p hp => by
  obtain ⟨F, g, S0⟩ := S
  obtain ⟨g', S1, hg, _, h0⟩ := S0.newOwn (u := .dK []) hp
  have S2 := S1.retag (l := .tmp ρ.length) hg
  have S3 : StF c F _ σ (upd H p (.dK [])) δ (ρ ++ [(.ref p, .own p (.K ke ev ([] : List (α × β))))]) := S2.push ⟨rfl, if_pos rfl, h0, [], upd_same, rfl, .nil⟩
  refine h σ _ _ _ ⟨F, _, S3⟩ fun x H1 δ1 r ⟨k, e, k1⟩ S4 => ?_
  subst e
  refine k1 σ H1 _ _ S4.push fun y H2 δ2 r2 ⟨xv, pu, kk⟩ S5 => ?_
  obtain ⟨F2, g2, S7⟩ := S5.put pu
  have hy : DV c.B F2 y (ev xv) := S7.last
  have S8 := S7.drop
  have hx : DV c.B F2 x (tK (ke.kk k)) := S8.last
  have S9 := S8.drop
  obtain ⟨_, _, _, kvs, e1, e2, e3⟩ := id S9.last
  have e0 : kvs = [] := by
    cases kvs with
    | nil => rfl
    | cons _ _ => cases e2
  subst e0
  refine ⟨e1, [(ke.kk k, y)], by rw [DV.tK hx]; rfl, (show 1 ≤ 15 by decide), q _ _ δ2 _ (kk p) ?_⟩
  have S10 := S9.updT (u := .dK [(ke.kk k, y)]) (o' := .K ke ev [(k, xv)]) ⟨_, upd_same, rfl, .cons hy .nil⟩
  exact St.popO ⟨F2, g2, S10⟩
/-! ### x += i -/
theorem es_augI {i : Nat} {te : TE} {R : DEnds} {x : Int} (hx : δ[i]? = some (.d (.int x))) (h : EV c te δ fun δ1 r => ∃ y : Int, r = .d (.int y) ∧ R.nx (δ1.set i (.d (.int (x + y))))) : ES c (tAug i te (ipI fun i j => i + j)) δ R := fun σ H ρ D S M => by
  obtain ⟨F, g, S0⟩ := S
  obtain ⟨v, e, hv⟩ := S0.data hx
  obtain rfl := DV.int_ hv
  refine ⟨_, e, h σ H ρ _ ⟨F, g, S0⟩ fun w H1 δ1 r ⟨y, er, k⟩ S1 => ?_⟩
  subst er
  obtain ⟨F1, g1, S2, hw⟩ := S1
  have hw : DV c.B F1 w (.int y) := hw
  obtain rfl := DV.int_ hw
  refine ⟨x, y, rfl, rfl, M.nx _ _ _ k ?_⟩
  exact St1.store (St.flat ⟨F1, g1, S2⟩ rfl)
end
end DL

namespace DL
open PySem L2 PySem.Spec PyProof.Rows

/-! ### repr of data, where no repr is under way -/
def rRepr (B : Bs) : List V → Hp → VK → Prop := fun xs H Q => ∃ v d, xs = [v] ∧ Dp B.K H v d ∧ d.showable = true ∧ d.hasDict = false ∧ d.shown.length ≤ sizeLine ∧ d.depth ≤ 62 ∧ Q (.str d.shown) H
theorem call_repr' {X : Cx} (hg : X.A.guards = some []) (hu : X.A.units + 64 < cLine) : CallR X (.builtin "repr") (rRepr (Bx X)) := by
  intro pins s σ H xs us Q I r h
  obtain ⟨v, d, rfl, hd, h1, h2, h3, h4, q⟩ := h
  obtain ⟨u, rfl, rx⟩ := vals1 r
  cases hd with
  | non => cases rx; rw [PyData.shown_none] at q; exact PySem.P.repr_of_none ⟨.str _, H, I.tok _, ⟨_, rfl⟩, q⟩
  | bl b => cases rx; rw [PyData.shown_bool] at q; exact PySem.P.repr_of_bool ⟨.str _, H, I.tok _, ⟨_, rfl⟩, q⟩
  | int i =>
    obtain ⟨t, rfl⟩ := rx
    rw [PyData.shown_int] at q
    simp only [PyData.showable, decide_eq_true_eq] at h1
    exact PySem.P.repr_of_int h1 ⟨.str _, H, I.tok _, ⟨_, rfl⟩, q⟩
  | str x =>
    obtain ⟨t, rfl⟩ := rx
    rw [PyData.shown_str] at q h3
    exact PySem.P.repr_of_str ⟨.str _, H, I.tok _, ⟨_, rfl⟩, q⟩ h3
  | @lst a xs ds hx hs =>
    cases rx
    obtain ⟨as, rr⟩ := Dp.reads I _ _ _ (Dp.lst hx hs) rfl
    exact repr_of_reads' rr h1 (PyData.noDict_hsm h2) hg (by omega) (fun _ _ e => e) (fun h' u tk hk => (⟨.str _, H, I.kept hk, ⟨u, rfl⟩, q⟩ : EP X pins σ Q _ _)) h3
  | @tup a xs ds hx hs =>
    cases rx
    obtain ⟨as, rr⟩ := Dp.reads I _ _ _ (Dp.tup hx hs) rfl
    exact repr_of_reads' rr h1 (PyData.noDict_hsm h2) hg (by omega) (fun _ _ e => e) (fun h' u tk hk => (⟨.str _, H, I.kept hk, ⟨u, rfl⟩, q⟩ : EP X pins σ Q _ _)) h3
theorem call_reprB {X : Cx} (B : Bs) (h : Bx X = B) (hg : X.A.guards = some []) (hu : X.A.units + 64 < cLine) : CallR X (.builtin "repr") (rRepr B) := h ▸ call_repr' hg hu
section
variable {c : Cn} {δ : List SV} {Post : List SV → SV → Prop}
/-- d can be shown -/
structure ShowOk (d : PyData) : Prop where
  sh : d.showable = true
  nd : d.hasDict = false
  sz : d.shown.length ≤ sizeLine
  dp : d.depth ≤ 62
theorem oa_repr {t : T} {d : PyData} (hd : t.py = some d) (ok : ShowOk d) (k : Post δ (.d (.str d.shown))) : OPA c (rRepr c.B) δ [.d t] Post := fun σ H ρ vs Q hl S q => by
  obtain ⟨v, rfl, S⟩ := S.arg1 hl
  obtain ⟨F, g, S2, h⟩ := S.top1
  have hv : DV c.B F v t := h
  have dp := Dp.mono S2.fh _ _ (DV.dp _ _ _ hv hd)
  exact ⟨v, d, rfl, dp, ok.sh, ok.nd, ok.sz, ok.dp, q _ H δ _ k (St.flat ⟨F, g, S2⟩ rfl)⟩
theorem o2_neS {i j : Str} (k : Post δ (.d (.bl (!decide (i = j))))) : OP2 c rNe δ (.d (.str i)) (.d (.str j)) Post := fun σ H ρ x w Q S q => by
  obtain ⟨e1, e2, S2⟩ := S.strs
  subst e1; subst e2
  refine ⟨rfl, ?_⟩
  have e : decide (V.str i = V.str j) = decide (i = j) := by
    by_cases h : i = j
    · subst h; simp
    · rw [decide_eq_false h, decide_eq_false fun z => h (by injection z)]
  rw [e]
  exact q _ H δ _ k (S2.flat (t := .bl (!decide (i = j))) rfl)
end
end DL

namespace DL
open PySem L2 PySem.Spec PyProof.Rows

/-! ### defs that are called where no repr is under way -/
structure FnG (P : Program) (w : World) (K : PySem.W.Frag) (mg : Str → Option Value) (base : Heap) (k : Nat) (f : Addr) (fd : FuncData) (ps : List Str) (sp : Sp) : Prop where
  ar : ∀ vs H Q E, sp vs H Q E → vs.length = ps.length
  go : ∀ A outer s H args us vs Q E, A.guards = some [] → L2.Room k A → Env0 P w K mg base A outer s H → BindsTo s fd args (ps.zip us) → Vals vs us → sp vs H Q E →
    codeAny (model P w) A (.call (.ref f) args) (CR CX0 outer P w H s Q E) s
section
variable {P : Program} {w : World} {K : PySem.W.Frag} {mg : Str → Option Value} {base : Heap}
/-- from a def's body to its promise -/
theorem FnG.make {x qual : Str} {st : Stmt} {f : Addr} {fd : FuncData} {N ps : List Str} {k : Nat} {sp : Sp} (Fn : Fun K x qual st f fd) (S : FnScope N ps (defScope st)) (ar : ∀ vs H Q E, sp vs H Q E → vs.length = ps.length)
    (body : ∀ (cdv : Value) (A : Around) (outer : List Env) (s : Shared) (H : Hp) (vs : List V) (Q : VK) (E : XK), (A.deeper (envOfC qual (defScope st) s.heap.objs.size f cdv)).guards = some [] → L2.Room k (A.deeper (envOfC qual (defScope st) s.heap.objs.size f cdv)) → sp vs H Q E →
      ∃ t, PSs (cxOf CX0 P w K mg base N qual (defScope st) f cdv A outer s H E).nox (defBody st) t ∧ t { nx := fun _ H' => Q .non H', rt := Q } (start N vs) H) : FnG P w K mg base (k + 1) f fd ps sp := by
  obtain ⟨oc, od, kV, doc, pm, an, cdv, ct, osl, rfl, look, hcode⟩ := Fn.ex
  constructor
  · exact ar
  · intro A outer s H args us vs Q E gd room ground bind vals want
    have kept : ∀ {b : Addr} {o : Obj}, base.get? b = some o → s.heap.get? b = some o := fun z => (ground.bs _ _ z).1
    have inK : K.In s.heap := ground.mod.kin.keeps fun _ _ z => kept z
    have nolim := ground.mod.nolimit.keeps (h' := s.heap) fun _ _ z => kept z
    have kinds : ∀ y ∈ ps.zip us, (defScope st).names.lookup y.1 = some .local ∨ ((defScope st).names.lookup y.1 = some .cell ∧ ((cellsFrom (s.heap.objs.size + 1) (defScope st).names []).lookup y.1).isSome = true) := by
      intro y hy
      have := S.par y.1 (List.of_mem_zip (a := y.1) (b := y.2) hy).1
      exact this.imp id fun z => ⟨z, PySem.W.cellsFrom_some _ _ _ (.inl z)⟩
    refine codeAny_call_function room.depth (inK _ _ look) rfl S.co S.gen rfl (PySem.W.codeRec_of inK hcode) (bind _ _ _ _ (wpAny_newFunctionEnv_cells S.kind kinds ?_))
    rintro _ rfl s1 inCall
    refine ⟨nolim.keeps inCall.toInCall.keep, codeAny_func ?_⟩
    obtain ⟨t, derive, holds⟩ := body cdv A outer s H vs Q E gd (room.deeper _) want
    have I0 := inv_start (CX := CX0) (E := E) (cd := cdv) S room.hd ground (ar _ _ _ _ want) vals inCall
    refine wpAny_mono (derive.nox.run [] s1 (start N vs) H _ I0 holds) ?_ fun _ _ z => z
    rintro (_ | _ | _ | u) s2 z
    · obtain ⟨_, H2, J, z⟩ := z
      exact ⟨V.non, H2, J.os, J.bare, J.base, J.hok, rfl, z⟩
    · obtain ⟨_, _, _, z⟩ := z; exact z.elim
    · obtain ⟨_, _, _, z⟩ := z; exact z.elim
    · obtain ⟨v, _, H2, J, rel, z⟩ := z
      exact ⟨v, H2, J.os, J.bare, J.base, J.hok, rel, z⟩
/-- a def that may be called there -/
structure CalG (P : Program) (w : World) (K : PySem.W.Frag) (mg : Str → Option Value) (base : Heap) (x : Str) (k : Nat) (ps : List Str) (sp : Sp) where
  f : Addr
  fd : FuncData
  ok : FnG P w K mg base k f fd ps sp
  mg : mg x = some (.ref f)
  kp : PySem.W.keepIn K (.ref f) = true
  bd : Binds K fd ps []
end
section
variable {X : Cx} {k : Nat} {f : Addr} {fd : FuncData} {ps : List Str} {sp : Sp} {x : Str} {e : Expr} {es : List Expr} {t : TA} {p pos : Pos}
theorem FnG.runs (F : FnG X.prog X.w X.K X.mg X.base k f fd ps sp) (gd : X.A.guards = some []) (room : L2.Room k X.A) (bd : Binds X.K fd ps []) {pins : List (Addr × Obj)} {σ : L2.St} {H : Hp} {s : Shared} {Q : VK} {us : List Value} {vs : List V}
    (I : Inv X pins σ H s) (r : Vals vs us) (want : sp vs H Q E0) : wpAny (model X.prog X.w) X.A (call (.ref f) us) (EP X pins σ Q) X.xe s := by
  have hl : us.length = ps.length := r.length.symm.trans (F.ar _ _ _ _ want)
  have b0 := bd s us I.kIn (by simpa using hl)
  rw [List.append_nil] at b0
  refine wpAny_call (codeAny_mono (F.go X.A X.stack s H ⟨us, []⟩ us vs Q E0 gd room I.env0 b0 r want) ?_)
  rintro (e | _ | _ | _ | u) s2 z
  · exact (show False from z).elim
  · exact (show False from z).elim
  · exact (show False from z).elim
  · exact (show False from z).elim
  · exact I.after z
theorem pe_callG (F : FnG X.prog X.w X.K X.mg X.base k f fd ps sp) (gd : X.A.guards = some []) (room : L2.Room k X.A) (hg : Gl X x) (hm : X.mg x = some (.ref f)) (hk : PySem.W.keepIn X.K (.ref f) = true) (bd : Binds X.K fd ps [])
    (ha : PA X (e :: es) t) (hdb : (x == ("__debug__" : Str)) = false := by decide) (he : starEach (e :: es) X.env = (false, eval e X.env) :: starEach es X.env := by rfl) (hpl : (backTo pos (starEach es X.env)).any (·.1) = false := by rfl) :
    PE X (.Call (.Name x p) (e :: es) [] pos) (tCall sp [] E0 t) := by
  constructor
  intro pins s σ H Q I h
  refine wpAny_Call_Name_kw (ld_glob I hg hm (PySem.W.callWith_K (h₀ := X.base) I.ok.mod.kin hk (thn (ha.run pos pins s σ H _ I h) ?_) he hpl) hdb)
  rintro us s1 ⟨vs, H1, I1, r, want⟩
  exact ⟨I1.kIn, F.runs gd room bd I1 r (by simpa using want)⟩
end
/-! ### the law -/
section
variable {P : Program} {w : World} {K : PySem.W.Frag} {mg mb : Str → Option Value}
/-- the law's call gives True, and leaves what stood -/
abbrev GivesTrue (P : Program) (w : World) (fa a : Addr) (s₁ : Shared) : Prop :=
  codeAny (model P w) callerA (.call (.ref fa) ⟨[.ref a], []⟩) (fun r s' => r = .ok (.ret (.bool true)) ∧
    OldK s₁.heap s'.heap ∧ s'.os = s₁.os ∧ AllBare s'.gens) s₁
end
end DL

namespace DL
open PySem L2
section
variable {c : Cn} {δ : List SV} {Post : List SV → SV → Prop}
theorem o2_eqI {i j : Int} (k : Post δ (.d (.bl (decide (i = j))))) : OP2 c (rEqD c.B.K) δ (.d (.int i)) (.d (.int j)) Post :=
  o2_eq (t := .int i) (u := .int j) (d := .int i) (e := .int j) (b := decide (i = j)) rfl rfl rfl rfl (by simp only [PyData.eqv]; by_cases h : i = j <;> simp [h]) k
theorem uix_m {α : Type} {f : α → T} {l : List α} {j : Nat} {s1 : SV} (lv : LstV δ s1 (l.map f)) (hj : j < l.length) (k : Post δ (.d (f l[j]))) : OP2 c (uIx c.B) δ s1 (.d (.int j)) Post :=
  uix_L lv (atI_nat (by simp [hj])) k
/-! ### texts -/
theorem join_cps (ys : List Str) : (Txt.join (Str.ofString "") ys).cps.toList = (ys.map fun y => y.cps.toList).flatten := by
  have key : ∀ (l : List Str) (acc : Array Nat), (l.foldl (fun acc p => acc ++ (Str.ofString "").cps ++ p.cps) acc).toList = acc.toList ++ (l.map fun y => y.cps.toList).flatten := by
    intro l
    induction l with
    | nil => intro acc; simp
    | cons y l ih =>
      intro acc
      rw [List.foldl_cons, ih]
      simp [show (Str.ofString "").cps = #[] from rfl]
  cases ys with
  | nil => rfl
  | cons y ys =>
    show (ys.foldl _ y.cps).toList = _
    rw [key]; rfl
theorem mulOk_one {n : Nat} {i : Int} (h1 : 1 ≤ i) (h2 : i ≤ 100) : MulOk ⟨#[n]⟩ i := by
  refine ⟨by simp; omega, fun _ _ => ?_, fun _ _ => ?_⟩
  · have : (1 : Int) ≤ (2 ^ 63 - 1) / i := by
      apply (Int.le_ediv_iff_mul_le (by omega)).mpr; omega
    show ¬ ((1 : Nat) : Int) > _
    omega
  · unfold Builtin.Str.tooLong
    have e : (⟨#[n]⟩ : Str).length = 1 := rfl
    rw [e]
    simp
    have : sizeLine ≥ 100 := by decide +kernel
    omega
end
end DL

namespace DL
open PySem L2
/-! ### trees of tuples, texts, numbers alone -/
/-- what is told of an argument: data, or a list or dict that a name owns -/
inductive AsO (δ : List SV) : SV → T → Prop
  | d {t : T} : AsO δ (.d t) t
  | o {a : Addr} {o : OW} {t : T} (j : Nat) (h : δ[j]? = some (.own a o)) (hf : o.fr = some t) : AsO δ (.ptr a) t
inductive AsOs (δ : List SV) : List SV → List T → Prop
  | nil : AsOs δ [] []
  | cons {s : SV} {t : T} {ss : List SV} {ts : List T} (h : AsO δ s t) (r : AsOs δ ss ts) : AsOs δ (s :: ss) (t :: ts)
end DL

namespace DL
open PySem L2
section
variable {c : Cn} {δ : List SV} {F : Hp} {g : Addr → Option Loc} {σ : L2.St} {H : Hp} {ρ : List (V × SV)} {a : Addr} {o : OW}
open Classical in
/-- and from a temporary to a slot that it is stored in -/
theorem StF.tmpToSlot (S : StF c F g σ H δ ρ) {i n : Nat} {v : V} (hn : ρ[n]? = some (v, .own a o)) : StF c F (fun b => if b = a then some (.slot i) else if g b = some (.slot i) then none else g b) (σ.set i (some v)) H (δ.set i (.own a o)) (ρ.set n (v, .no)) := by
  obtain ⟨e1, h1, h2, h3⟩ := S.tm n _ hn
  have e1 : v = .ref a := e1
  refine ⟨S.fh, S.f0, S.fn, S.h0, by rw [List.length_set, List.length_set]; exact S.len, fun k s e => ?_, fun m q e => ?_, fun b l e => ?_, S.an, S.tbG fun b => by
    by_cases q : b = a
    · exact .inl ⟨_, by rw [q]; exact h1⟩
    · by_cases q2 : g b = some (.slot i)
      · exact .inl ⟨_, q2⟩
      · exact .inr (.inl (by rw [if_neg q, if_neg q2]))⟩
  · by_cases hk : i = k
    · subst hk
      have hi : i < δ.length := by have := (List.getElem?_eq_some_iff.mp e).1; simpa using this
      rw [List.getElem?_set_self hi] at e
      cases e
      rw [List.getElem?_set_self (by rw [S.len]; exact hi)]
      exact ⟨by rw [e1]; rfl, if_pos rfl, h2, h3⟩
    · rw [List.getElem?_set_ne hk] at e
      rw [List.getElem?_set_ne hk]
      refine (S.sl k s e).mono (Ex.refl F) (fun b hb => ?_) (fun _ _ => rfl)
      have n1 : b ≠ a := fun z => by rw [z, h1] at hb; cases hb
      rw [if_neg n1, if_neg (by rw [hb]; intro z; injection z with z; injection z with z; exact hk z.symm)]
      exact hb
  · by_cases hm : n = m
    · subst hm
      rw [List.getElem?_set_self (by have := (List.getElem?_eq_some_iff.mp hn).1; omega)] at e
      cases e; trivial
    · rw [List.getElem?_set_ne hm] at e
      refine (S.tm m q e).mono (Ex.refl F) (fun b hb => ?_) (fun _ _ => rfl)
      have n1 : b ≠ a := fun z => by
        rw [z, h1] at hb
        injection hb with hb; injection hb with hb
        exact hm hb
      rw [if_neg n1, if_neg (by rw [hb]; intro z; cases z)]
      exact hb
  · by_cases q : b = a
    · subst q; exact S.gn b _ h1
    · rw [if_neg q] at e
      by_cases q2 : g b = some (.slot i)
      · rw [if_pos q2] at e; cases e
      · rw [if_neg q2] at e; exact S.gn b l e
end
/-! ### a method with one keyword -/
end DL

namespace DL
open PySem L2
end DL

namespace DL
open PySem L2
section
variable {c : Cn} {δ : List SV} {Post : List SV → SV → Prop}
/-- what may be told of a value that is stored in a name -/
inductive Pop : SV → Prop
  | d {t : T} : Pop (.d t)
  | own {a : Addr} {o : OW} : Pop (.own a o)
  | ptr {a : Addr} : Pop (.ptr a)
  | no : Pop .no
theorem St.pop {σ : L2.St} {H : Hp} {ρ : List (V × SV)} {v : V} {s : SV} (p : Pop s) (S : St c σ H δ (ρ ++ [(v, s)])) : St1 c σ H δ ρ v s := by
  cases p with
  | own => exact S.popO
  | d => obtain ⟨F, g, S⟩ := S; exact ⟨F, g, S.drop, S.last⟩
  | ptr => obtain ⟨F, g, S⟩ := S; exact ⟨F, g, S.drop, S.last⟩
  | no => obtain ⟨F, g, S⟩ := S; exact ⟨F, g, S.drop, trivial⟩
/-- a, b = x, y -/
theorem es_parG {i j : Nat} {ta : TA} {R : DEnds} (hij : i ≠ j) (h : EVA c ta δ fun δ1 rs => ∃ s1 s2, rs = [s1, s2] ∧ Pop s1 ∧ Pop s2 ∧ R.nx ((δ1.set i s1).set j s2)) : ES c (tPar i j ta) δ R := fun σ H ρ D S M =>
  h σ H ρ _ S fun vs H1 δ1 rs ⟨s1, s2, e, p1, p2, k⟩ hl S1 => by
    subst e
    match vs, hl, S1 with
    | [v, w], hl, S1 =>
      have S1 : St c σ H1 δ1 ((ρ ++ [(v, s1)]) ++ [(w, s2)]) := by rw [List.append_assoc]; exact S1
      refine ⟨v, w, rfl, M.nx _ _ _ k ?_⟩
      have S2 : St c (σ.set j (some w)) H1 (δ1.set j s2) (ρ ++ [(v, s1)]) := (S1.pop p2).store
      have S3 : St c ((σ.set j (some w)).set i (some v)) H1 ((δ1.set j s2).set i s1) ρ := (S2.pop p1).store
      rw [List.set_comm _ _ (Ne.symm hij), List.set_comm _ _ (Ne.symm hij)] at S3
      exact S3
end
/-! ### pairs of numbers, or of None, as keys -/
end DL

namespace DL
open PySem L2 PySem.Spec PyProof.Rows

/-! ### operators of instances of an own class -/
section
variable {X : Cx} {k : Nat} {f C : Addr} {fd : FuncData} {ps : List Str} {sp : Sp}
/-- an own method by its name, as operators look it up -/
structure OwnM (K : PySem.W.Frag) (C : Addr) (m : Str) (f : Addr) : Prop where
  at_ : PySem.W.findIn K (.ref C) m = some (some (.ref f))
  fn : PySem.W.isFn K (.ref f) = true
/-! == and != -/
end
end DL

namespace DL
open PySem L2 PySem.Spec PyProof.Rows

/-! ### own operators, over data -/
section
variable {c : Cn} {F : Hp} {g : Addr → Option Loc} {σ : L2.St} {H : Hp} {δ : List SV} {ρ : List (V × SV)} {Post : List SV → SV → Prop} {S : List T → (RT → Prop) → Prop} {C : Addr}
/-- a promise of data is asked at a state -/
theorem spP_go {vs : List V} {ts : List T} {P : RT → Prop} {Q : VK} {E : XK} (S1 : StF c F g σ H δ ρ) (hd : DVs c.B F vs ts) (hS : S ts P) (k : ∀ r, P r → RTp Post δ r) (q : ∀ v H' δ' r, Post δ' r → St1 c σ H' δ' ρ v r → Q v H') : spP c.B S vs H Q E :=
  ⟨F, ts, S1.fh, hd, P, hS, fun r v H' F' hp A => by
    obtain ⟨s, k2, S3⟩ := (S1.grow A.eh A.ef A.fh A.fn).res S1.gnone S1.h0n A.res (k r hp)
    exact q v H' δ s k2 S3⟩
/-- an instance that is data -/
theorem DV.ins {B : Bs} {v : V} {ns : List Str} {us : List T} (h : DV B F v (.obj C ns us)) : ∃ a dx fs, v = .ref a ∧ F a = some (.ins C dx fs) := by
  simp only [DV] at h
  obtain ⟨a, dx, fs, e, h1, _⟩ := h
  exact ⟨a, dx, fs, e, h1⟩
/-- o.f, a property -/
theorem ev_prop {ta : TE} {E : XK} (h : EV c ta δ fun δ1 r => ∃ ns us, r = .d (.obj C ns us) ∧ ∃ P, S [.obj C ns us] P ∧ ∀ r, P r → RTp Post δ1 r) : EV c (tProp C (spP c.B S) [] E ta) δ Post := fun σ H ρ Q S1 q =>
  h σ H ρ _ S1 fun x H1 δ1 r ⟨ns, us, e, P, hS, k⟩ ⟨F, g, S2, hx⟩ => by
    subst e
    have hx : DV c.B F x (.obj C ns us) := hx
    obtain ⟨a, dx, fs, rfl, ha⟩ := hx.ins
    exact ⟨a, dx, fs, rfl, S2.fh _ _ ha, spP_go S2 (.cons hx .nil) hS k q⟩
/-! ### x op= y, where the class has no own in-place name -/
end
end DL

namespace DL
open PySem L2 PySem.Spec PyProof.Rows
section
variable {c : Cn} {δ : List SV} {Post : List SV → SV → Prop} {ta tb : TE}
/-- (a, b) = (x, y), where the tuple is made: what is new stays owned -/
theorem es_tupG {i j : Nat} {tx : TA} {R : DEnds} (hij : i ≠ j) (h : EVA c tx δ fun δ1 rs => ∃ s1 s2, rs = [s1, s2] ∧ Pop s1 ∧ Pop s2 ∧ R.nx ((δ1.set i s1).set j s2)) : ES c (tAsg (tTup tx) (gTup c.B.K 2 (gCons (gName i) (gCons (gName j) gNil)))) δ R := fun σ H ρ D S M =>
  h σ H ρ _ S fun vs H1 δ1 rs ⟨s1, s2, e, p1, p2, k⟩ hl S1 => by
    subst e
    match vs, hl, S1 with
    | [v, w], hl, S1 =>
      have S1 : St c σ H1 δ1 ((ρ ++ [(v, s1)]) ++ [(w, s2)]) := by rw [List.append_assoc]; exact S1
      refine ⟨show 2 ≤ sizeLine by decide, fun p hp => ⟨p, [v, w], rfl, SqT.of upd_same, rfl, v, [w], rfl, w, [], rfl, rfl, M.nx _ _ _ k ?_⟩⟩
      have S2 : St c (σ.set j (some w)) H1 (δ1.set j s2) (ρ ++ [(v, s1)]) := (S1.pop p2).store
      have S3 : St c ((σ.set j (some w)).set i (some v)) H1 ((δ1.set j s2).set i s1) ρ := (S2.pop p1).store
      rw [List.set_comm _ _ (Ne.symm hij), List.set_comm _ _ (Ne.symm hij)] at S3
      obtain ⟨F, g, S4⟩ := S3
      exact ⟨F, g, S4.grow (Ex.new hp) (Ex.refl F) (S4.fh.trans (Ex.new hp)) (fun _ _ _ => rfl)⟩
/-! names of own operators -/
end
end DL

namespace DL
open PySem L2 PySem.Spec PyProof.Rows
section
variable {c : Cn} {δ : List SV} {Post : List SV → SV → Prop} {S : List T → (RT → Prop) → Prop} {C : Addr}
/-! the same, where the promise is asked for what is wanted -/
theorem ev_propR {ta : TE} {E : XK} (h : EV c ta δ fun δ1 r => ∃ ns us, r = .d (.obj C ns us) ∧ S [.obj C ns us] (RTp Post δ1)) : EV c (tProp C (spP c.B S) [] E ta) δ Post := ev_prop (h.imp fun δ1 r ⟨ns, us, e, h⟩ => ⟨ns, us, e, _, h, fun _ h => h⟩)
end
end DL

namespace DL
open PySem L2 PySem.Spec PyProof.Rows
/-! ### d[text] of a dict that the top has written -/
end DL

namespace DL
open PySem L2 PySem.Spec PyProof.Rows

section
variable {P : Program} {w : World} {A : Around} {E : Value → Shared → Prop} {s : Shared} {a : Addr} {ks : List Str}
theorem TxtSet.keep {h h' : Heap} (R : TxtSet w h a ks) (k : ∀ o, h.get? a = some o → h'.get? a = some o) : TxtSet w h' a ks := by
  obtain ⟨o, es, ep, t, ho, r⟩ := R.ex
  exact ⟨o, es, ep, t, k o ho, r⟩
theorem TxtE.is {e : Int × Value} (g : TxtE w e) (k : Str) : (strKind P w).is k e.2 = true ↔ txtOf e = k := by
  obtain ⟨k0, t, rfl⟩ := g
  show Value.isStrOf k (.str k0 t) = true ↔ k0 = k
  simp [Value.isStrOf]
theorem txt_elems {l : List (Int × Value)} (g : ∀ e ∈ l, TxtE w e) : ElemsOf (strKind P w) l := fun e he => by
  obtain ⟨k, t, e1⟩ := g e he
  rw [e1]
  exact ⟨⟨k, by show Value.isStrOf k (.str k t) = true; simp [Value.isStrOf], rfl⟩, rfl⟩
/-- the new table is stored, and laid anew if it is too full -/
theorem txt_store {gw : Bool → Sem Unit} (hgw : ∀ (b : Bool) (s₁ : Shared) (Q' : Unit → Shared → Prop), Q' () s₁ → wpAny (model P w) A (gw b) Q' E s₁) {o : Obj} {es es1 : Array (Int × Value)} {ep : Nat} {t t2 : SetTable} (ho : s.heap.get? a = some o) (hex : o.ExactSet) (hd : o.data = .set es ep t)
    (g1 : ∀ e ∈ es1.toList, TxtE w e) (nd : (es1.toList.map txtOf).Nodup) (hb : es1.size < scanBound) (hf : t2.fits es1.size = true) (hr : Ris t2.place.toList) (hl : w.params.followText "set-order" = true ∨ t2.led = true) {dm : Bool} {R : Option Bool → Shared → Prop}
    (hR : ∀ h' ks', Heap.SameBut a s.heap h' → ks'.Perm (es1.toList.map txtOf) → TxtSet w h' a ks' → R (some true) { s with heap := h' }) :
    wpAny (model P w) A (do
        storeSet a es1 t2
        if (!dm && t2.tooFull) = true then do
            gw (relayAll t2 es1 (SetTable.grown es1.size)).2.2
            storeSet a (relayAll t2 es1 (SetTable.grown es1.size)).1 (relayAll t2 es1 (SetTable.grown es1.size)).2.1
            pure (some true)
          else pure (some true)) R E s := by
  have sb := Heap.SameBut.update s.heap a (Obj.putSet es1 t2)
  have o1 := L2.store_at (es' := es1) (t' := t2) ho hd
  refine wpAny_bind (wpAny_storeSet_of ho hd (hz := fits_of_scanBound hb) ?_)
  by_cases hc : (!dm && t2.tooFull) = true
  · rw [if_pos hc]
    have q1 := relayAll_perm t2 es1 (SetTable.grown es1.size)
    have q2 := relayAll_fits t2 es1 (SetTable.grown es1.size)
    have q3 := L2.relayAll_ris t2 es1 (SetTable.grown es1.size)
    have q4 := L2.relayAll_led t2 es1 (SetTable.grown es1.size)
    revert q1 q2 q3 q4
    generalize relayAll t2 es1 (SetTable.grown es1.size) = Z
    obtain ⟨es3, t3, gv⟩ := Z
    dsimp only
    intro q1 q2 q3 q4
    have z3 : es3.size < scanBound := by
      have : es3.size = es1.size := by rw [← Array.length_toList, q1.length_eq, Array.length_toList]
      omega
    refine wpAny_bind (hgw _ _ _ (wpAny_bind (wpAny_storeSet_of o1 rfl (hz := fits_of_scanBound z3) ?_)))
    have o3 := L2.store_at (es' := es3) (t' := t3) o1 rfl
    refine wpAny_pure (hR _ (es3.toList.map txtOf) (sb.trans (Heap.SameBut.update _ a _)) (q1.map txtOf) ⟨_, es3, _, t3, o3, hex, rfl, fun e he => g1 e (q1.mem_iff.mp he), rfl, (q1.map txtOf).nodup_iff.mpr nd, z3, q2, q3, ?_⟩)
    rw [q4]; exact hl
  · rw [if_neg hc]
    exact wpAny_pure (hR _ _ sb (List.Perm.refl _) ⟨_, es1, _, t2, o1, hex, rfl, g1, rfl, nd, hb, hf, hr, hl⟩)
/-- one more text -/
theorem txt_add_hashed {k : Str} {tk : Tok} {Q : Bool → Shared → Prop} (R : TxtSet w s.heap a ks) (room : ks.length + 1 < scanBound)
    (hQ : ∀ (b : Bool) h' ks', Heap.SameBut a s.heap h' → (if k ∈ ks then ks'.Perm ks else ks'.Perm (k :: ks)) → TxtSet w h' a ks' → Q b { s with heap := h' }) :
    wpAny (model P w) A (setAddHashed a (.str k tk) ((strKind P w).hash k)) Q E s := by
  obtain ⟨o, es, ep, t, ho, hex, hd, g, rfl, nd, hb, hf, hr, hl⟩ := R.ex
  have isk : (strKind P w).is k (.str k tk) = true := by show Value.isStrOf k (.str k tk) = true; simp [Value.isStrOf]
  have sc : (Value.str k tk).scannable = true := rfl
  have els : ElemsOf (strKind P w) es.toList := txt_elems g
  unfold setAddHashed setAddHashedIn
  refine wpAny_holding (wpAny_bind (wpAny_setState_of ho hd hf (by
    dsimp only
    rw [byScan_of sc hb els, if_pos rfl]
    unfold setAddByScan
    refine wpAny_bind (wpAny_bind (wpAny_rule (wpAny_bind (wpAny_setScan_of isk ho hd hf els ?_))))
    cases hfi : List.findIdx? (fun e => (strKind P w).is k e.2) es.toList with
    | some j =>
      obtain ⟨hj, pj, _⟩ := List.findIdx?_eq_some_iff_getElem.mp hfi
      have hin : k ∈ es.toList.map txtOf := List.mem_map.mpr ⟨_, List.getElem_mem hj, ((g _ (List.getElem_mem hj)).is (P := P) k).mp pj⟩
      exact wpAny_pure (wpAny_pure (hQ _ s.heap _ (Heap.SameBut.refl a s.heap) (by rw [if_pos hin]) ⟨o, es, ep, t, ho, hex, hd, g, rfl, nd, hb, hf, hr, hl⟩))
    | none =>
      dsimp only
      have hin : k ∉ es.toList.map txtOf := fun z => by
        obtain ⟨e, he, q⟩ := List.mem_map.mp z
        have c := List.findIdx?_eq_none_iff.mp hfi e he
        rw [((g e he).is (P := P) k).mpr q] at c
        cases c
      have gwy : ∀ (b : Bool) {s₁ : Shared} {Q' : Unit → Shared → Prop}, Q' () s₁ → wpAny (model P w) A (match b with | true => rule "set.scan.the-table-gave-way" | false => pure ()) Q' E s₁ := fun b s₁ Q' q => by
        cases b
        · exact wpAny_pure q
        · exact wpAny_rule q
      have q1 := layNew_perm t es ((strKind P w).hash k) (.str k tk)
      have q2 := layNew_fits t es ((strKind P w).hash k) (.str k tk)
      have q3 := L2.layNew_ris t es ((strKind P w).hash k) (.str k tk) hr
      have q4 := L2.layNew_led t es ((strKind P w).hash k) (.str k tk)
      revert q1 q2 q3 q4
      generalize layNew t es ((strKind P w).hash k) (.str k tk) = Z
      obtain ⟨es1, t1, dm, gv⟩ := Z
      dsimp only
      intro q1 q2 q3 q4
      rw [Array.toList_push] at q1
      have p1 : es1.toList.Perm (((strKind P w).hash k, Value.str k tk) :: es.toList) := q1.trans (List.perm_append_singleton _ _)
      have p2 : (es1.toList.map txtOf).Perm (k :: es.toList.map txtOf) := p1.map txtOf
      have g1 : ∀ e ∈ es1.toList, TxtE w e := fun e he => by
        rcases List.mem_cons.mp (p1.mem_iff.mp he) with z | z
        · rw [z]; exact ⟨k, tk, rfl⟩
        · exact g e z
      have n1 : (es1.toList.map txtOf).Nodup := p2.nodup_iff.mpr (List.nodup_cons.mpr ⟨hin, nd⟩)
      have b1 : es1.size < scanBound := by
        rw [← Array.length_toList, p1.length_eq, List.length_cons]
        rwa [List.length_map] at room
      have l1 : w.params.followText "set-order" = true ∨ t1.led = true := by rw [q4]; exact hl
      have fin : ∀ h' ks', Heap.SameBut a s.heap h' → ks'.Perm (es1.toList.map txtOf) → TxtSet w h' a ks' → Q true { s with heap := h' } := fun h' ks' sb pm r => hQ _ h' ks' sb (by rw [if_neg hin]; exact pm.trans p2) r
      refine wpAny_bind (gwy _ ?_)
      split
      · refine wpAny_bind (by
          rw [hashByValue_scannable 8 sc]
          refine wpAny_pure (txt_store (fun b s₁ Q' q => ?_) ho hex hd g1 n1 b1 ?_ ?_ ?_ fun h' ks' sb pm r => ?_)
          · cases b
            · exact wpAny_pure q
            · exact wpAny_rule q
          · first | exact q2 | (split <;> first | exact q2 | exact SetTable.fits_plain_off q2)
          · first | exact q3 | (split <;> exact q3)
          · first | exact l1 | (split <;> exact l1)
          · exact wpAny_pure (fin h' ks' sb pm r))
      · refine wpAny_bind (wpAny_pure ?_)
        rw [if_pos rfl]
        refine txt_store (fun b s₁ Q' q => ?_) ho hex hd g1 n1 b1 q2 q3 l1 fun h' ks' sb pm r => ?_
        · cases b
          · exact wpAny_pure q
          · exact wpAny_rule q
        · exact wpAny_pure (fin h' ks' sb pm r))))
end
end DL

namespace DL
open PySem L2 PySem.Spec PyProof.Rows

/-! ### sorted(a set of texts) -/
section
variable {P : Program} {w : World} {A : Around} {E : Value → Shared → Prop} {s : Shared} {a : Addr} {ks : List Str}
theorem txts_of {w : World} : ∀ (l : List (Int × Value)), (∀ e ∈ l, TxtE w e) → StrsAre (l.map (·.2)) (l.map txtOf)
  | [], _ => .nil
  | e :: l, h => by
    obtain ⟨k, t, rfl⟩ := h e List.mem_cons_self
    exact .cons k t (txts_of l fun u hu => h u (List.mem_cons_of_mem _ hu))
theorem strs_perm {us : List Value} {ks : List Str} (h : StrsAre us ks) : ∀ {vs : List Value}, vs.Perm us → ∃ js, StrsAre vs js ∧ js.Perm ks := by
  intro vs p
  induction p generalizing ks with
  | nil => cases h; exact ⟨[], .nil, List.Perm.refl _⟩
  | cons x p ih =>
    cases h with
    | cons k t h =>
      obtain ⟨js, h1, h2⟩ := ih h
      exact ⟨k :: js, .cons k t h1, h2.cons k⟩
  | swap x y l =>
    cases h with
    | cons k t h =>
      cases h with
      | cons k2 t2 h => exact ⟨k2 :: k :: _, .cons k2 t2 (.cons k t h), List.Perm.swap _ _ _⟩
  | trans p q ih1 ih2 =>
    obtain ⟨js, h1, h2⟩ := ih2 h
    obtain ⟨js2, h3, h4⟩ := ih1 h1
    exact ⟨js2, h3, h4.trans h2⟩
theorem txt_sorted {Q : Value → Shared → Prop} (R : TxtSet w s.heap a ks) (hh : A.handled = none) (h64 : ks.length < 64)
    (hQ : ∀ s' p (out : Array Value) (c : Nat) (ys : List Str), (∀ b o, s.heap.get? b = some o → s'.heap.get? b = some o) → s'.gens = s.gens → s'.os = s.os → s.heap.objs.size ≤ p → s'.heap.get? p = some (seqObj "list" out c) → StrsAre out.toList ys → ys.Perm ks → sortedS ys = true → Q (.ref p) s') :
    wpAny (model P w) A (call (.builtin "sorted") [.ref a]) Q E s := by
  obtain ⟨o, es, ep, t, ho, hex, hd, g, rfl, nd, hb, hf, hr, hl⟩ := R.ex
  rw [List.length_map, Array.length_toList] at h64
  refine Calls.call_function_entry kind_sorted plain_sorted entry_sorted (args_sorted1 _) ?_
  unfold Builtin.«sorted»
  refine wpAny_bind (m := checkCount "sorted" 1 1 _) (wpAny_pure (wpAny_bind (L2.collect_set (A := A.in1) hh ⟨o, ho, hex.1, hd⟩ hf hb hr hl fun s1 vs k1 hz g1 o1 pm => ?_)))
  obtain ⟨js, hjs, pj⟩ := strs_perm (txts_of es.toList g) pm
  have lv : vs.length < 64 := by rw [pm.length_eq, List.length_map, Array.length_toList]; exact h64
  refine wpAny_bind (wpAny_newList ?_ (by rw [sizeLine_eq]; omega))
  have nl : (s1.heap.push (seqObj "list" vs.toArray 0)).get? s1.heap.objs.size = some (seqObj "list" vs.toArray 0) := Heap.get?_push_size _ rfl
  refine wpAny_bind (wpAny_holding (wpAny_call_entry slot_list_sort ⟨_, nl, rfl⟩ entry_list_sort
    (list_sort_treeK strKind_oneLt nl hjs.keysOf (fun v₁ v₂ rest e => keyKind_strs (by rw [← e]; exact hjs)) lv fun st' hp hs => ?_) (args_list_sort _)))
  obtain ⟨ys, y1, y2, y3⟩ := sorted_out_str hjs hp hs
  obtain ⟨c, hc⟩ := sortedHeap_at (vs := vs) (out := (arrOf st').map (·.2)) nl
  refine ⟨_, rfl, wpAny_pure ⟨_, rfl, hQ _ s1.heap.objs.size _ c ys (fun b u e => ?_) g1 o1 hz hc y1 (y2.trans pj) y3⟩⟩
  have q := k1 b u e
  have hlt := Heap.lt_size q
  show (sortedHeap (s1.heap.push (seqObj "list" vs.toArray 0)) s1.heap.objs.size vs _).get? b = some u
  rw [sortedHeap_old (Nat.ne_of_lt hlt) (by rw [size_push']; exact Nat.lt_succ_of_lt hlt)]
  exact Heap.get?_push_of_some _ q
end
end DL

namespace DL
open PySem PySem.Spec PyProof.Rows L2

/-! ### sets of texts as tracked things -/
abbrev emptySet (w : World) : Obj := { cls := .type "set", dict := none, data := .set #[] 0 (.fresh 0 0 (!w.params.followText "set-order")) }
theorem txt_empty {w : World} {h : Heap} {a : Addr} (g : h.get? a = some (emptySet w)) : TxtSet w h a [] := by
  refine ⟨_, #[], 0, _, g, ⟨rfl, rfl, rfl⟩, rfl, fun e he => by simp at he, by simp, by simp, by decide, by rfl, List.Pairwise.nil, ?_⟩
  show _ ∨ (!w.params.followText "set-order") = true
  cases w.params.followText "set-order" <;> simp
theorem txt_obj {w : World} {P : Program} {H : Hp} {h : Heap} {a : Addr} {ks : List Str} (R : TxtSet w h a ks) : ObjOk P w H h a (TxtO w a ks) := by
  obtain ⟨o, _, _, _, ho, _⟩ := id R.ex
  exact ⟨R, ⟨o, ho⟩, fun h1 h2 p k => TxtSet.keep p k⟩
theorem TxtSet.type {w : World} {s : Shared} {a : Addr} {ks : List Str} (R : TxtSet w s.heap a ks) : s.TypeIs (.ref a) "set" := by
  obtain ⟨o, _, _, _, ho, hx, _⟩ := R.ex
  exact ⟨o, ho, hx.1⟩
section
variable {P : Program} {w : World} {A : Around} {E : Value → Shared → Prop} {s : Shared} {a : Addr} {ks : List Str}
theorem isStr_self (k : Str) (tk : Tok) : (strKind P w).is k (.str k tk) = true := by show Value.isStrOf k (.str k tk) = true; simp [Value.isStrOf]
/-- s.add(text) -/
theorem txt_add {k : Str} {tk : Tok} {Q : Value → Shared → Prop} (R : TxtSet w s.heap a ks) (room : ks.length + 1 < scanBound)
    (hQ : ∀ h' ks', Heap.SameBut a s.heap h' → (if k ∈ ks then ks'.Perm ks else ks'.Perm (k :: ks)) → TxtSet w h' a ks' → Q .none { s with heap := h', toks := s.toks + 1 }) :
    wpAny (model P w) A (call (.builtin "set.add") [.ref a, .str k tk]) Q E s := by
  refine wpAny_call_entry F.slot_set_add R.type F.entry_set_add ?_ (F.args_set_add_2 _ _)
  unfold Builtin.«set.add» Builtin.Frozenset.oneOther
  simp only [List.isEmpty_nil, bind_assoc]
  unfold Builtin.Frozenset.addrOf setAdd
  refine wpAny_bind (wpAny_pure ?_)
  try dsimp only
  refine wpAny_bind (wpAny_pure ?_)
  try dsimp only
  refine wpAny_bind (wpAny_holding (wpAny_bind ((strKind P w).pyHash (isStr_self (P := P) k tk) ?_)))
  refine txt_add_hashed (s := { s with toks := s.toks + 1 }) R room fun b h' ks' sb pm r => ?_
  exact wpAny_pure ⟨_, rfl, hQ h' ks' sb pm r⟩
end
/-! ### set comprehensions, whatever the kind of set -/
abbrev TSetR := Addr → V → Hp → (Hp → Prop) → Prop
structure SetWay (P : Program) (w : World) (K : PySem.W.Frag) (A : Around) (o0 : Addr → HO) (R : TSetR) : Prop where
  new : ∀ (H : Hp) (h : Heap), sysModules < h.objs.size → ObjOk P w H (h.push (emptySet w)) h.objs.size (o0 h.objs.size)
  put : ∀ (X : Cx), X.prog = P → X.w = w → X.K = K → X.A = A → ∀ (pins : List (Addr × Obj)) (σ : L2.St) (H : Hp) (s : Shared) (E : Value → Shared → Prop) (D : Addr) (y : V) (u : Value) (Nx : Hp → Prop), Inv X pins σ H s → RelV y u → R D y H Nx →
    wpAny (model P w) A (call (.builtin "set.add") [.ref D, u]) (fun _ s' => ∃ H', Inv X pins σ H' s' ∧ Nx H') E s
/-- a set takes a text -/
def rTxt (w : World) : TSetR := fun D y H Nx => ∃ (ks : List Str) (k : Str), y = .str k ∧ H D = some (TxtO w D ks) ∧ ks.length + 1 < scanBound ∧ ∀ ks', (if k ∈ ks then ks'.Perm ks else ks'.Perm (k :: ks)) → Nx (upd H D (TxtO w D ks'))
theorem txt_get {X : Cx} {pins : List (Addr × Obj)} {σ : L2.St} {H : Hp} {s : Shared} {a : Addr} {ks : List Str} (I : Inv X pins σ H s) (ha : H a = some (TxtO X.w a ks)) : TxtSet X.w s.heap a ks := (I.hok a _ ha).1
theorem wayTxt {X : Cx} : SetWay X.prog X.w X.K X.A (fun D => TxtO X.w D []) (rTxt X.w) where
  new := fun H h big => txt_obj (txt_empty (Heap.get?_push_size h rfl))
  put := fun Y hP hw hK hA pins σ H s E D y u Nx I ry h => by
    rw [← hw] at h
    rw [← hP, ← hw, ← hA]
    obtain ⟨ks, k, rfl, hD, hz, nx⟩ := h
    obtain ⟨t, rfl⟩ := ry
    refine txt_add (txt_get I hD) hz fun h' ks' sb pm r => ?_
    obtain ⟨o, _, _, _, ho, _⟩ := id r.ex
    exact ⟨_, I.write (e := D) (t' := s.toks + 1) (by rw [hD]; trivial) (.inl rfl) (fun b v hb hv => (sb.2 b hb).trans hv) ⟨o, ho⟩ (txt_obj r), nx ks' pm⟩
def tScG (o0 : Addr → HO) (R : TSetR) (wi : TI) (g : TG) (tt : TT) (te : TE) (own : List Nat) : TE := fun σ H Q => wi σ H fun J H1 => ∀ D, H1 D = none →
  ∃ W : Nat → Nat → Hp → Prop, (∃ m, W 0 m (upd H1 D (o0 D))) ∧ ∀ i m H2, W i m H2 → (J.stop i H2 ∧ Q (.ref D) H2) ∨ (J.go i H2 ∧
    ∃ Nx : Hp → Prop, (∀ H', Nx H' → ∃ m', m' < m ∧ W (i + 1) m' H') ∧ ∀ x H', J.yld i H2 x H' → g x (wipe σ own) H' fun σ2 H3 => wipe σ2 own = wipe σ own ∧ tt σ2 H3 fun b H4 =>
      if b = true then te σ2 H4 fun y H5 => R D y H5 Nx else Nx H4)
/-- two clauses -/
def tScG2 (o0 : Addr → HO) (R : TSetR) (wi : TI) (g : TG) (tt : TT) (wj : TI) (gj : TG) (tj : TT) (te : TE) (own ownj : List Nat) : TE := fun σ H Q => wi σ H fun J H1 => ∀ D, H1 D = none →
  ∃ W : Nat → Nat → Hp → Prop, (∃ m, W 0 m (upd H1 D (o0 D))) ∧ ∀ i m H2, W i m H2 → (J.stop i H2 ∧ Q (.ref D) H2) ∨ (J.go i H2 ∧
    ∃ Nx : Hp → Prop, (∀ H', Nx H' → ∃ m', m' < m ∧ W (i + 1) m' H') ∧ ∀ x H', J.yld i H2 x H' → g x (wipe σ own) H' fun σ2 H3 => wipe σ2 own = wipe σ own ∧ tt σ2 H3 fun b H4 =>
      if b = true then wj σ2 H4 fun J' H5 => ∃ W' : Nat → Nat → Hp → Prop, (∃ m, W' 0 m H5) ∧ ∀ j k H6, W' j k H6 → (J'.stop j H6 ∧ Nx H6) ∨ (J'.go j H6 ∧
        ∃ Ny : Hp → Prop, (∀ H', Ny H' → ∃ k', k' < k ∧ W' (j + 1) k' H') ∧ ∀ x H', J'.yld j H6 x H' → gj x (wipe σ2 ownj) H' fun σ3 H7 => wipe σ3 ownj = wipe σ2 ownj ∧ tj σ3 H7 fun c H8 =>
          if c = true then te σ3 H8 fun y H9 => R D y H9 Ny else Ny H8)
      else Nx H4)
section
variable {X : Cx} {o0 : Addr → HO} {R : TSetR}
theorem scg {vx tg iter : Expr} {ifs : List Expr} {scope : Scope} {own : List (Str × Nat)} {pos : Pos} {wi : TI} {g : TG} {tt : TT} {te : TE} (way : SetWay X.prog X.w X.K X.A o0 R)
    (calm : X.calm = true) (nd : X.N.Nodup) (pi : PI X tg iter wi) (ok : BlkOk X.N X.env.scope scope own)
    (pgs : ∀ s H C cl fp, PG (X.blk s H scope (compEnvC scope cl C X.env) fp) tg g)
    (pts : ∀ s H C cl fp, PTs (X.blk s H scope (compEnvC scope cl C X.env) fp) ifs tt)
    (pvs : ∀ s H C cl fp, PE (X.blk s H scope (compEnvC scope cl C X.env) fp) vx te)
    (plain : ∀ x, foldedSetIterable iter X.env x = pure x := by intro _; rfl) : PE X (.SetComp vx [⟨tg, iter, ifs, 0⟩] scope pos) (tScG o0 R wi g tt te (own.map (·.2))) := by
  constructor
  intro pins s σ H Q I want
  rw [PpSet.eval_SetComp]
  have caught : ∀ y ∈ scope.names, y.2 = .free → ∃ c, X.env.cells.lookup y.1 = some c := by
    intro y hy e
    exact (ok.free y hy e).elim (fun k => I.ok.has _ (.inl k)) fun k => I.ok.has _ (.inr k)
  refine wpAny_comprehension_free rfl plain (closure_ok caught) ok.kind (fun y hy e => (ok.uniq y hy).trans (by rw [e])) ?_
  refine thn (pi.run pins s σ H _ I want) fun xv s1 hx => thn hx fun itv s2 got => ?_
  obtain ⟨it, fp, tn, J, H2, ei, I2, T, t2, free2, q⟩ := got
  subst ei
  refine PpSet.newSet_ok (newEnv_comp ?_)
  have fresh : H2 s2.heap.objs.size = none := I2.hok.fresh (Nat.le_refl _)
  obtain ⟨W, ⟨m0, w0⟩, turn⟩ := q _ fresh
  have I3 : Inv X pins σ (upd H2 s2.heap.objs.size (o0 s2.heap.objs.size)) { s2 with heap := s2.heap.push (emptySet X.w) } :=
    I2.laid (t' := s2.toks) (fun _ _ e => Heap.get?_push_of_some _ e) (Nat.le_refl _) (way.new _ _ I2.big)
  have below : ∀ b ∈ fp, b < s2.heap.objs.size := fun b hb => let ⟨_, e, _⟩ := T.obj _ _ t2 b hb; Heap.lt_size e
  have free3 : ∀ b ∈ fp, FpOk X pins (upd H2 s2.heap.objs.size (o0 s2.heap.objs.size)) b := fun b hb =>
    ⟨by rw [upd_ne (Nat.ne_of_lt (below b hb))]; exact (free2 b hb).1, (free2 b hb).2⟩
  have t3 : tn 0 (s2.heap.push (emptySet X.w)) := T.keep _ _ _ t2 fun _ _ _ e => Heap.get?_push_of_some _ e
  have I4 := block_start I3 ok nd fun b hb => ⟨free3 b hb, by rw [Heap.size_push]; exact Nat.lt_succ_of_lt (below b hb)⟩
  generalize hs3 : ({ s2 with heap := s2.heap.push (emptySet X.w) } : Shared) = s3 at I3 I4
  have eh3 : s2.heap.push (emptySet X.w) = s3.heap := by rw [← hs3]
  rw [eh3] at t3
  have t4 : tn 0 (pushCells (s3.heap.push { cls := .type "dict", data := .dict #[] }) scope.names) := T.keep _ _ _ t3 fun _ _ _ e => pushCells_keeps _ _ _ _ (Heap.get?_push_of_some _ e)
  have go : ∀ (ce : Env) (H3 : Hp) (s4 : Shared), ce.locals = s3.heap.objs.size → Inv X pins σ H3 s3 → Inv (X.blk s3 H3 scope ce fp) [] (wipe σ (own.map (·.2))) H3 s4 → tn 0 s4.heap → (∀ b ∈ fp, FpOk X pins H3 b) → W 0 m0 H3 →
      PG (X.blk s3 H3 scope ce fp) tg g → PTs (X.blk s3 H3 scope ce fp) ifs tt → PE (X.blk s3 H3 scope ce fp) vx te →
      codeAny (model X.prog X.w) X.A (.compLoop (.SetComp vx [⟨tg, iter, ifs, 0⟩] scope pos) 0 (.ref it) (.ref s2.heap.objs.size) ce) (compPost (model X.prog X.w) X.A X.xe none (EP X pins σ Q) (.ref s2.heap.objs.size) s3.heap.objs.size) s4 := by
    intro ce H3 s4 hL J3 J4 st f3 ww pg pt pv
    have held : ∀ {σ' : L2.St} {H' : Hp} {s' : Shared}, Inv (X.blk s3 H3 scope ce fp) [] σ' H' s' → (∀ b ∈ fp, H' b = none) → ∀ b ∈ fp, FpOk (X.blk s3 H3 scope ce fp) [] H' b := by
      intro σ' H' s' I' hn b hb
      exact ⟨hn b hb, (I'.ok.exf b hb).1, I'.ok.exfs b hb, .inl hb, fun x c e => (I'.ok.exf b hb).2 x c e, fun p hp => by simp at hp⟩
    refine PpSet.compLoopS_any (fun n s' => ∃ i H', Inv (X.blk s3 H3 scope ce fp) [] (wipe σ (own.map (·.2))) H' s' ∧ tn i s'.heap ∧ (∀ b ∈ fp, H' b = none) ∧ W i n H') ?_ m0 ⟨0, H3, J4, st, fun b hb => (f3 b hb).1, ww⟩
    rintro n s5 ⟨i, H5, I5, t5, n5, w5⟩
    rcases turn i n H5 w5 with ⟨stop, qq⟩ | ⟨more, Nx, hNx, step⟩
    · refine thnF (T.done (X.blk s3 H3 scope ce fp) rfl rfl rfl calm i [] s5 _ H5 (fun _ _ => False) I5 (held I5 n5) t5 stop) fun r s6 ⟨hr, I6⟩ => ?_
      subst hr
      have I7 : Inv X pins σ H5 s6 := J3.call' (ch := fp) I6.os I6.base I6.hok I6.bare fun b hb => ⟨(f3 b hb).2.2.2.1, (f3 b hb).2.1, (f3 b hb).2.2.2.2.1, (f3 b hb).2.2.2.2.2⟩
      have gone : H5 s3.heap.objs.size = none := by rw [← hL]; exact I6.free
      obtain ⟨m, hn, _⟩ := I6.loc
      have hn : s6.heap.Ns ce.locals m := hn
      rw [hL] at hn
      obtain ⟨f0, f1, f2, f3', f4, f5⟩ := J3.fpOk (Nat.le_refl _) gone
      exact ⟨m, hn, fun h'' sb => ⟨.ref _, H5, I7.turned (t' := s6.toks) (fun b o hb e => (sb.2 b hb).trans e) f0 f1 f3' f4 f5, rfl, qq⟩⟩
    · refine thnF (T.item (X.blk s3 H3 scope ce fp) rfl rfl rfl calm i [] s5 _ H5 (fun _ _ => False) I5 (held I5 n5) t5 more) fun r s6 ⟨u, hr, h6⟩ => ?_
      subst hr
      refine thnF h6 fun _ s7 ⟨x, H7, I7, r7, y7, t7, n7⟩ => ?_
      refine thnF (pg.run _ s7 _ H7 x u _ (I7.pinned (held I7 n7) (T.obj _ _ t7)) r7 (step x H7 y7)) fun _ s8 ⟨σ8, H8, I8, e8, q8⟩ => ?_
      refine thnF (pt.run _ s8 σ8 H8 _ I8 q8) fun b s9 ⟨H9, I9, q9⟩ => ?_
      have close : ∀ {s' : Shared} {H' : Hp}, Inv (X.blk s3 H3 scope ce fp) ([] ++ pinsAt fp s7.heap) σ8 H' s' → Nx H' → ∃ m, m < n ∧ ∃ i H', Inv (X.blk s3 H3 scope ce fp) [] (wipe σ (own.map (·.2))) H' s' ∧ tn i s'.heap ∧ (∀ b ∈ fp, H' b = none) ∧ W i m H' := by
        intro s' H' I' nx
        obtain ⟨m', lt, w'⟩ := hNx H' nx
        have still : ∀ b ∈ fp, ∀ o, s7.heap.get? b = some o → s'.heap.get? b = some o ∧ H' b = none := by
          intro b hb o e
          have z := I'.pin (b, o) (List.mem_append_right _ (List.mem_append_right _ (mem_pinsAt hb e)))
          exact ⟨z.1, z.2.1⟩
        refine ⟨m', lt, i + 1, H', (I'.unpinned (pins := [])).weak (by rw [← e8, wipe_length]) ?_, T.keep _ _ _ t7 fun b hb o e => (still b hb o e).1, ?_, w'⟩
        · intro j v e
          rw [← e8] at e
          exact (wipe_some e).1
        · intro b hb
          obtain ⟨o, e, _⟩ := T.obj _ _ t7 b hb
          exact (still b hb o e).2
      cases b with
      | false => exact close I9 q9
      | true =>
        rw [if_pos rfl] at q9 ⊢
        refine thnF (pv.run _ s9 σ8 H9 _ I9 q9) fun vv s11 ⟨z, H11, I11, r11, q11⟩ => ?_
        exact thnF (way.put (X.blk s3 H3 scope ce fp) rfl rfl rfl rfl _ σ8 H11 s11 (fun _ _ => False) _ z vv Nx I11 r11 q11) fun _ s12 ⟨H12, I12, nx⟩ => close I12 nx
  have go4 := go _ _ _ rfl I3 I4 t4 free3 w0 (pgs _ _ _ _ _) (pts _ _ _ _ _) (pvs _ _ _ _ _)
  exact PpSet.codeAny_compStart_set go4 (T.self X.A 0 _ _ _ t4 go4)
end
end DL

namespace DL
open PySem PySem.Spec PyProof.Rows L2

/-! ### set comprehensions of two clauses -/
section
variable {prog : Program} {w : World} {A : Around} {R : Result → Shared → Prop} {vx tga ita tgb itb : Expr} {ca cb : List Expr} {scope : Scope} {pos : Pos} {acc : Value} {env : Env}
abbrev setC (vx tga ita tgb itb : Expr) (ca cb : List Expr) (scope : Scope) (pos : Pos) : Expr := .SetComp vx [⟨tga, ita, ca, 0⟩, ⟨tgb, itb, cb, 0⟩] scope pos
theorem turn_first (i : Value) : compTurn (setC vx tga ita tgb itb ca cb scope pos) 0 i acc env = (standAt ita.pos >>= fun _ => pyNext i >>= fun got => match got with
    | none => pure (.done .next)
    | some v => letOwnedTupleGo tga i v >>= fun _ => assign tga env v >>= fun _ =>
        (forIn ca true fun c r => if r = true then do let ok ← isTrue c env (eval c env); pure (ForInStep.yield ok) else pure (ForInStep.yield r)) >>= fun ok =>
        (if ok = true then (eval itb env >>= fun y => standAt itb.pos >>= fun _ => foldedSetIterable itb env y >>= fun y => holding [y] (pyIter y) >>= fun y =>
            runOwn (.compStart (setC vx tga ita tgb itb ca cb scope pos) 1 y acc env) env >>= fun _ => again (.compLoop (setC vx tga ita tgb itb ca cb scope pos) 0 i acc env))
          else again (.compLoop (setC vx tga ita tgb itb ca cb scope pos) 0 i acc env))) := by rfl
theorem turn_second (i : Value) : compTurn (setC vx tga ita tgb itb ca cb scope pos) 1 i acc env = (standAt itb.pos >>= fun _ => pyNext i >>= fun got => match got with
    | none => pure (.done .next)
    | some v => letOwnedTupleGo tgb i v >>= fun _ => assign tgb env v >>= fun _ =>
        (forIn cb true fun c r => if r = true then do let ok ← isTrue c env (eval c env); pure (ForInStep.yield ok) else pure (ForInStep.yield r)) >>= fun ok =>
        (if ok = true then ((eval vx env >>= fun y => standAt vx.pos >>= fun _ => call (.builtin "set.add") [acc, y] >>= fun _ => pure ⟨⟩) >>= fun (_ : PUnit) => again (.compLoop (setC vx tga ita tgb itb ca cb scope pos) 1 i acc env))
          else again (.compLoop (setC vx tga ita tgb itb ca cb scope pos) 1 i acc env))) := by rfl
variable {s : Shared} {it : Value}
/-- what is raised within is noted, and goes on -/
abbrev NB (prog : Program) (w : World) (A : Around) (env : Env) (R : Result → Shared → Prop) : Value → Shared → Prop := notedBy (model prog w) A env fun e s' => R (.error e) s'
abbrev tests (cs : List Expr) (env : Env) : Sem Bool := forIn cs true fun c r => if r = true then do let ok ← isTrue c env (eval c env); pure (ForInStep.yield ok) else pure (ForInStep.yield r)
theorem loop_second (I : Nat → Shared → Prop)
    (turn : ∀ n s, I n s → wpAny (model prog w) A (pyNext it) (fun r s₁ => match r with
      | none => R (.ok .next) s₁
      | some v => wpAny (model prog w) A (letOwnedTupleGo tgb it v) (fun _ s₂ => wpAny (model prog w) A (assign tgb env v) (fun _ s₃ => wpAny (model prog w) A (tests cb env) (fun ok s₄ =>
          if ok = true then wpAny (model prog w) A (eval vx env) (fun y s₅ => wpAny (model prog w) A (call (.builtin "set.add") [acc, y]) (fun _ s₆ => ∃ m, m < n ∧ I m s₆) (NB prog w A env R) s₅) (NB prog w A env R) s₄
          else ∃ m, m < n ∧ I m s₄) (NB prog w A env R) s₃) (NB prog w A env R) s₂) (NB prog w A env R) s₁) (NB prog w A env R) s)
    (n : Nat) (h : I n s) : codeAny (model prog w) A (.compLoop (setC vx tga ita tgb itb ca cb scope pos) 1 it acc env) R s := by
  refine codeAny_loop rfl I (fun n s hI => ?_) n h
  show wpAny _ A ((compTurn (setC vx tga ita tgb itb ca cb scope pos) 1 it acc env).onRaise (fun x => do noteFrame x env; theTreesLotGoes x)) _ _ s
  refine wpAny_noted ?_
  rw [turn_second]
  refine wpAny_bind (wpAny_standAt (wpAny_bind (thn (turn n s hI) fun r s₁ k₁ => ?_)))
  cases r with
  | none => exact wpAny_pure k₁
  | some v =>
    refine wpAny_bind (thn k₁ fun _ s₂ k₂ => wpAny_bind (thn k₂ fun _ s₃ k₃ => wpAny_bind (thn k₃ fun ok s₄ k₄ => ?_)))
    cases ok with
    | false => exact wpAny_pure ⟨rfl, k₄⟩
    | true => exact wpAny_bind (wpAny_bind (thn k₄ fun y s₅ k₅ => wpAny_bind (wpAny_standAt (wpAny_bind (thn k₅ fun _ s₆ k₆ => wpAny_pure (wpAny_pure ⟨rfl, k₆⟩))))))
theorem loop_first (hs : ∀ y, foldedSetIterable itb env y = pure y) (I : Nat → Shared → Prop)
    (turn : ∀ n s, I n s → wpAny (model prog w) A (pyNext it) (fun r s₁ => match r with
      | none => R (.ok .next) s₁
      | some v => wpAny (model prog w) A (letOwnedTupleGo tga it v) (fun _ s₂ => wpAny (model prog w) A (assign tga env v) (fun _ s₃ => wpAny (model prog w) A (tests ca env) (fun ok s₄ =>
          if ok = true then wpAny (model prog w) A (eval itb env) (fun y s₅ => wpAny (model prog w) A (pyIter y) (fun j s₆ =>
              codeAny (model prog w) A (.compStart (setC vx tga ita tgb itb ca cb scope pos) 1 j acc env) (fun r s₇ => match r with
                | .ok _ => ∃ m, m < n ∧ I m s₇
                | .error _ => False) s₆) (NB prog w A env R) s₅) (NB prog w A env R) s₄
          else ∃ m, m < n ∧ I m s₄) (NB prog w A env R) s₃) (NB prog w A env R) s₂) (NB prog w A env R) s₁) (NB prog w A env R) s)
    (n : Nat) (h : I n s) : codeAny (model prog w) A (.compLoop (setC vx tga ita tgb itb ca cb scope pos) 0 it acc env) R s := by
  refine codeAny_loop rfl I (fun n s hI => ?_) n h
  show wpAny _ A ((compTurn (setC vx tga ita tgb itb ca cb scope pos) 0 it acc env).onRaise (fun x => do noteFrame x env; theTreesLotGoes x)) _ _ s
  refine wpAny_noted ?_
  rw [turn_first]
  refine wpAny_bind (wpAny_standAt (wpAny_bind (thn (turn n s hI) fun r s₁ k₁ => ?_)))
  cases r with
  | none => exact wpAny_pure k₁
  | some v =>
    refine wpAny_bind (thn k₁ fun _ s₂ k₂ => wpAny_bind (thn k₂ fun _ s₃ k₃ => wpAny_bind (thn k₃ fun ok s₄ k₄ => ?_)))
    cases ok with
    | false => exact wpAny_pure ⟨rfl, k₄⟩
    | true =>
      refine wpAny_bind (thn k₄ fun y s₅ k₅ => wpAny_bind (wpAny_standAt (wpAny_bind (wpAny_of_eq (hs y) (wpAny_bind (wpAny_holding (thn k₅ fun j s₆ k₆ => ?_)))))))
      refine wpAny_bind (wpAny_runOwn ?_)
      rw [Around.mark_none]
      refine codeAny_mono k₆ fun r s₇ k₇ => ?_
      cases r with
      | error e => exact k₇.elim
      | ok f => first | exact wpAny_pure ⟨rfl, k₇⟩ | exact wpAny_bind (wpAny_pure (wpAny_pure ⟨rfl, k₇⟩))
theorem start_second (h0 : codeAny (model prog w) A (.compLoop (setC vx tga ita tgb itb ca cb scope pos) 1 it acc env) R s)
    (h : wpAny (model prog w) A (pyIter it) (fun j s' => codeAny (model prog w) A (.compLoop (setC vx tga ita tgb itb ca cb scope pos) 1 j acc env) R s') (NB prog w A env R) s) : codeAny (model prog w) A (.compStart (setC vx tga ita tgb itb ca cb scope pos) 1 it acc env) R s := by
  refine codeAny_of_tree ?_
  show wpAny _ _ ((compStart (setC vx tga ita tgb itb ca cb scope pos) 1 it acc env).onRaise (fun x => do noteFrame x env; standAt theWindowsPlace)) _ _ s
  refine wpAny_notedAt ?_
  unfold compStart
  show wpAny _ _ (ask >>= _) _ _ s
  refine wpAny_bind (wpAny_askSetting (wpAny_ite ?_))
  split
  · first | exact wpAny_bind (wpAny_pure (wpAny_pure ⟨rfl, h0⟩)) | exact wpAny_pure ⟨rfl, h0⟩
  · refine wpAny_bind (wpAny_rule ?_)
    show wpAny _ _ (standAt itb.pos >>= _) _ _ s
    refine wpAny_bind (wpAny_standAt (wpAny_bind (thn h fun j s' k => ?_)))
    exact wpAny_pure ⟨rfl, k⟩
end
end DL

namespace DL
open PySem PySem.Spec PyProof.Rows L2
section
variable {X : Cx} {o0 : Addr → HO} {R : TSetR}
theorem scg2 {vx tga ita tgb itb : Expr} {ca cb : List Expr} {scope : Scope} {own : List (Str × Nat)} {ownj : List Nat} {pos : Pos} {wi wj : TI} {g gj : TG} {tt tj : TT} {te : TE} (way : SetWay X.prog X.w X.K X.A o0 R)
    (calm : X.calm = true) (nd : X.N.Nodup) (pi : PI X tga ita wi) (ok : BlkOk X.N X.env.scope scope own) (sub : ∀ i ∈ ownj, i ∈ own.map (·.2))
    (pga : ∀ s H C cl fp, PG (X.blk s H scope (compEnvC scope cl C X.env) fp) tga g)
    (pta : ∀ s H C cl fp, PTs (X.blk s H scope (compEnvC scope cl C X.env) fp) ca tt)
    (pib : ∀ s H C cl fp, PI (X.blk s H scope (compEnvC scope cl C X.env) fp) tgb itb wj)
    (pgb : ∀ s H C cl fp, PG (X.blk s H scope (compEnvC scope cl C X.env) fp) tgb gj)
    (ptb : ∀ s H C cl fp, PTs (X.blk s H scope (compEnvC scope cl C X.env) fp) cb tj)
    (pvs : ∀ s H C cl fp, PE (X.blk s H scope (compEnvC scope cl C X.env) fp) vx te)
    (plain : ∀ x, foldedSetIterable ita X.env x = pure x := by intro _; rfl) (plainb : ∀ env x, foldedSetIterable itb env x = pure x := by intro _ _; rfl) :
    PE X (.SetComp vx [⟨tga, ita, ca, 0⟩, ⟨tgb, itb, cb, 0⟩] scope pos) (tScG2 o0 R wi g tt wj gj tj te (own.map (·.2)) ownj) := by
  constructor
  intro pins s σ H Q I want
  rw [PpSet.eval_SetComp]
  have caught : ∀ y ∈ scope.names, y.2 = .free → ∃ c, X.env.cells.lookup y.1 = some c := by
    intro y hy e
    exact (ok.free y hy e).elim (fun k => I.ok.has _ (.inl k)) fun k => I.ok.has _ (.inr k)
  refine wpAny_comprehension_free rfl plain (closure_ok caught) ok.kind (fun y hy e => (ok.uniq y hy).trans (by rw [e])) ?_
  refine thn (pi.run pins s σ H _ I want) fun xv s1 hx => thn hx fun itv s2 got => ?_
  obtain ⟨it, fp, tn, J, H2, ei, I2, T, t2, free2, q⟩ := got
  subst ei
  refine PpSet.newSet_ok (newEnv_comp ?_)
  have fresh : H2 s2.heap.objs.size = none := I2.hok.fresh (Nat.le_refl _)
  obtain ⟨W, ⟨m0, w0⟩, turn⟩ := q _ fresh
  have I3 : Inv X pins σ (upd H2 s2.heap.objs.size (o0 s2.heap.objs.size)) { s2 with heap := s2.heap.push (emptySet X.w) } :=
    I2.laid (t' := s2.toks) (fun _ _ e => Heap.get?_push_of_some _ e) (Nat.le_refl _) (way.new _ _ I2.big)
  have below : ∀ b ∈ fp, b < s2.heap.objs.size := fun b hb => let ⟨_, e, _⟩ := T.obj _ _ t2 b hb; Heap.lt_size e
  have free3 : ∀ b ∈ fp, FpOk X pins (upd H2 s2.heap.objs.size (o0 s2.heap.objs.size)) b := fun b hb =>
    ⟨by rw [upd_ne (Nat.ne_of_lt (below b hb))]; exact (free2 b hb).1, (free2 b hb).2⟩
  have t3 : tn 0 (s2.heap.push (emptySet X.w)) := T.keep _ _ _ t2 fun _ _ _ e => Heap.get?_push_of_some _ e
  have I4 := block_start I3 ok nd fun b hb => ⟨free3 b hb, by rw [Heap.size_push]; exact Nat.lt_succ_of_lt (below b hb)⟩
  generalize hs3 : ({ s2 with heap := s2.heap.push (emptySet X.w) } : Shared) = s3 at I3 I4
  have eh3 : s2.heap.push (emptySet X.w) = s3.heap := by rw [← hs3]
  rw [eh3] at t3
  have t4 : tn 0 (pushCells (s3.heap.push { cls := .type "dict", data := .dict #[] }) scope.names) := T.keep _ _ _ t3 fun _ _ _ e => pushCells_keeps _ _ _ _ (Heap.get?_push_of_some _ e)
  have go : ∀ (ce : Env) (H3 : Hp) (s4 : Shared), ce.locals = s3.heap.objs.size → Inv X pins σ H3 s3 → Inv (X.blk s3 H3 scope ce fp) [] (wipe σ (own.map (·.2))) H3 s4 → tn 0 s4.heap → (∀ b ∈ fp, FpOk X pins H3 b) → W 0 m0 H3 →
      PG (X.blk s3 H3 scope ce fp) tga g → PTs (X.blk s3 H3 scope ce fp) ca tt → PI (X.blk s3 H3 scope ce fp) tgb itb wj → PG (X.blk s3 H3 scope ce fp) tgb gj → PTs (X.blk s3 H3 scope ce fp) cb tj → PE (X.blk s3 H3 scope ce fp) vx te →
      codeAny (model X.prog X.w) X.A (.compLoop (setC vx tga ita tgb itb ca cb scope pos) 0 (.ref it) (.ref s2.heap.objs.size) ce) (compPost (model X.prog X.w) X.A X.xe none (EP X pins σ Q) (.ref s2.heap.objs.size) s3.heap.objs.size) s4 := by
    intro ce H3 s4 hL J3 J4 st f3 ww pg pt pj pgj ptj pv
    let Y := X.blk s3 H3 scope ce fp
    have held : ∀ {σ' : L2.St} {H' : Hp} {s' : Shared}, Inv Y [] σ' H' s' → (∀ b ∈ fp, H' b = none) → ∀ b ∈ fp, FpOk Y [] H' b := by
      intro σ' H' s' I' hn b hb
      exact ⟨hn b hb, (I'.ok.exf b hb).1, I'.ok.exfs b hb, .inl hb, fun x c e => (I'.ok.exf b hb).2 x c e, fun p hp => absurd (show p ∈ ([] : List (Addr × Obj)) ++ [] from hp) (by simp)⟩
    refine loop_first (plainb ce) (fun n s' => ∃ i H', Inv Y [] (wipe σ (own.map (·.2))) H' s' ∧ tn i s'.heap ∧ (∀ b ∈ fp, H' b = none) ∧ W i n H') ?_ m0 ⟨0, H3, J4, st, fun b hb => (f3 b hb).1, ww⟩
    rintro n s5 ⟨i, H5, I5, t5, n5, w5⟩
    rcases turn i n H5 w5 with ⟨stop, qq⟩ | ⟨more, Nx, hNx, step⟩
    · refine thnF (T.done Y rfl rfl rfl calm i [] s5 _ H5 (fun _ _ => False) I5 (held I5 n5) t5 stop) fun r s6 ⟨hr, I6⟩ => ?_
      subst hr
      have I7 : Inv X pins σ H5 s6 := J3.call' (ch := fp) I6.os I6.base I6.hok I6.bare fun b hb => ⟨(f3 b hb).2.2.2.1, (f3 b hb).2.1, (f3 b hb).2.2.2.2.1, (f3 b hb).2.2.2.2.2⟩
      have gone : H5 s3.heap.objs.size = none := by rw [← hL]; exact I6.free
      obtain ⟨m, hn, _⟩ := I6.loc
      have hn : s6.heap.Ns ce.locals m := hn
      rw [hL] at hn
      obtain ⟨f0, f1, f2, f3', f4, f5⟩ := J3.fpOk (Nat.le_refl _) gone
      exact ⟨m, hn, fun h'' sb => ⟨.ref _, H5, I7.turned (t' := s6.toks) (fun b o hb e => (sb.2 b hb).trans e) f0 f1 f3' f4 f5, rfl, qq⟩⟩
    · refine thnF (T.item Y rfl rfl rfl calm i [] s5 _ H5 (fun _ _ => False) I5 (held I5 n5) t5 more) fun r s6 ⟨u, hr, h6⟩ => ?_
      subst hr
      refine thnF h6 fun _ s7 ⟨x, H7, I7, r7, y7, t7, n7⟩ => ?_
      refine thnF (pg.run _ s7 _ H7 x u _ (I7.pinned (held I7 n7) (T.obj _ _ t7)) r7 (step x H7 y7)) fun _ s8 ⟨σ8, H8, I8, e8, q8⟩ => ?_
      refine thnF (pt.run _ s8 σ8 H8 _ I8 q8) fun b s9 ⟨H9, I9, q9⟩ => ?_
      -- the turn is over
      have close : ∀ {σ9 : L2.St} {s' : Shared} {H' : Hp}, Inv Y ([] ++ pinsAt fp s7.heap) σ9 H' s' → (σ9 = σ8 ∨ σ9 = wipe σ8 ownj) → Nx H' → ∃ m, m < n ∧ ∃ i H', Inv Y [] (wipe σ (own.map (·.2))) H' s' ∧ tn i s'.heap ∧ (∀ b ∈ fp, H' b = none) ∧ W i m H' := by
        intro σ9 s' H' I' h9 nx
        obtain ⟨m', lt, w'⟩ := hNx H' nx
        have still : ∀ b ∈ fp, ∀ o, s7.heap.get? b = some o → s'.heap.get? b = some o ∧ H' b = none := by
          intro b hb o e
          have z := I'.pin (b, o) (List.mem_append_right _ (List.mem_append_right _ (mem_pinsAt hb e)))
          exact ⟨z.1, z.2.1⟩
        have len9 : (wipe σ (own.map (·.2))).length = σ9.length := by
          rcases h9 with rfl | rfl
          · rw [← e8, wipe_length]
          · rw [← e8, wipe_length, wipe_length]
        refine ⟨m', lt, i + 1, H', (I'.unpinned (pins := [])).weak len9 ?_, T.keep _ _ _ t7 fun b hb o e => (still b hb o e).1, ?_, w'⟩
        · intro j v e
          rw [← e8] at e
          obtain ⟨z1, z2⟩ := wipe_some e
          rcases h9 with rfl | rfl
          · exact z1
          · rw [wipe_out fun z => z2 (sub j z)]; exact z1
        · intro b hb
          obtain ⟨o, e, _⟩ := T.obj _ _ t7 b hb
          exact (still b hb o e).2
      cases b with
      | false => exact close I9 (.inl rfl) q9
      | true =>
        rw [if_pos rfl] at q9 ⊢
        refine thnF (pj.run _ s9 σ8 H9 _ I9 q9) fun yv s10 hy => thnF hy fun itw s11 got => ?_
        obtain ⟨jt, fq, tm, J', H11, ej, I11, T', t11, free11, W', ⟨m1, w1⟩, turn'⟩ := got
        subst ej
        have stay : ∀ {H' : Hp}, (∀ b ∈ fq, H' b = none) → ∀ b ∈ fq, FpOk Y ([] ++ pinsAt fp s7.heap) H' b := fun hn b hb => ⟨hn b hb, (free11 b hb).2⟩
        have inner : codeAny (model X.prog X.w) X.A (.compLoop (setC vx tga ita tgb itb ca cb scope pos) 1 (.ref jt) (.ref s2.heap.objs.size) ce)
            (fun r s' => match r with
              | .ok _ => ∃ m, m < n ∧ ∃ i H', Inv Y [] (wipe σ (own.map (·.2))) H' s' ∧ tn i s'.heap ∧ (∀ b ∈ fp, H' b = none) ∧ W i m H'
              | .error _ => False) s11 := by
          refine loop_second (fun k s' => ∃ j H', Inv Y ([] ++ pinsAt fp s7.heap) (wipe σ8 ownj) H' s' ∧ tm j s'.heap ∧ (∀ b ∈ fq, H' b = none) ∧ W' j k H') ?_ m1 ⟨0, H11, I11.weak (wipe_length _ _) (fun j v e => (wipe_some e).1), t11, fun b hb => (free11 b hb).1, w1⟩
          rintro k s12 ⟨j, H12, I12, t12, n12, w12⟩
          rcases turn' j k H12 w12 with ⟨stop', nx⟩ | ⟨more', Ny, hNy, step'⟩
          · refine thnF (T'.done Y rfl rfl rfl calm j _ s12 (wipe σ8 ownj) H12 (fun _ _ => False) I12 (stay n12) t12 stop') fun r s13 ⟨hr, I13⟩ => ?_
            subst hr
            exact close I13 (.inr rfl) nx
          · refine thnF (T'.item Y rfl rfl rfl calm j _ s12 (wipe σ8 ownj) H12 (fun _ _ => False) I12 (stay n12) t12 more') fun r s13 ⟨u', hr, h13⟩ => ?_
            subst hr
            refine thnF h13 fun _ s14 ⟨x', H14, I14, r14, y14, t14, n14⟩ => ?_
            refine thnF (pgj.run _ s14 (wipe σ8 ownj) H14 x' u' _ (I14.pinned (stay n14) (T'.obj _ _ t14)) r14 (step' x' H14 y14)) fun _ s15 ⟨σ15, H15, I15, e15, q15⟩ => ?_
            refine thnF (ptj.run _ s15 σ15 H15 _ I15 q15) fun b' s16 ⟨H16, I16, q16⟩ => ?_
            have close' : ∀ {s' : Shared} {H' : Hp}, Inv Y (([] ++ pinsAt fp s7.heap) ++ pinsAt fq s14.heap) σ15 H' s' → Ny H' → ∃ m, m < k ∧ ∃ j H', Inv Y ([] ++ pinsAt fp s7.heap) (wipe σ8 ownj) H' s' ∧ tm j s'.heap ∧ (∀ b ∈ fq, H' b = none) ∧ W' j m H' := by
              intro s' H' I' ny
              obtain ⟨k', lt, w'⟩ := hNy H' ny
              have still : ∀ b ∈ fq, ∀ o, s14.heap.get? b = some o → s'.heap.get? b = some o ∧ H' b = none := by
                intro b hb o e
                have z := I'.pin (b, o) (List.mem_append_right _ (List.mem_append_right _ (mem_pinsAt hb e)))
                exact ⟨z.1, z.2.1⟩
              refine ⟨k', lt, j + 1, H', I'.unpinned.weak (by rw [← e15, wipe_length]) (fun j v e => ?_), T'.keep _ _ _ t14 fun b hb o e => (still b hb o e).1, fun b hb => ?_, w'⟩
              · rw [← e15] at e; exact (wipe_some e).1
              · obtain ⟨o, e, _⟩ := T'.obj _ _ t14 b hb
                exact (still b hb o e).2
            cases b' with
            | false => exact close' I16 q16
            | true =>
              rw [if_pos rfl] at q16 ⊢
              refine thnF (pv.run _ s16 σ15 H16 _ I16 q16) fun vv s17 ⟨z, H17, I17, r17, q17⟩ => ?_
              exact thnF (way.put Y rfl rfl rfl rfl _ σ15 H17 s17 (fun _ _ => False) _ z vv Ny I17 r17 q17) fun _ s18 ⟨H18, I18, ny⟩ => close' I18 ny
        exact start_second inner (T'.self X.A 0 _ _ _ t11 inner)
  have go4 := go _ _ _ rfl I3 I4 t4 free3 w0 (pga _ _ _ _ _) (pta _ _ _ _ _) (pib _ _ _ _ _) (pgb _ _ _ _ _) (ptb _ _ _ _ _) (pvs _ _ _ _ _)
  exact PpSet.codeAny_compStart_set go4 (T.self X.A 0 _ _ _ t4 go4)
end
end DL

namespace DL
open PySem PySem.Spec PyProof.Rows L2

/-! ### what a set of texts holds, whatever its order -/
structure IsSet (ks xs : List Str) : Prop where
  nd : ks.Nodup
  mem : ∀ x, x ∈ ks ↔ x ∈ xs
theorem IsSet.nil : IsSet [] [] := ⟨List.nodup_nil, fun _ => Iff.rfl⟩
theorem IsSet.add {ks ks' xs : List Str} {k : Str} (h : IsSet ks xs) (p : if k ∈ ks then ks'.Perm ks else ks'.Perm (k :: ks)) : IsSet ks' (xs ++ [k]) := by
  by_cases q : k ∈ ks
  · rw [if_pos q] at p
    refine ⟨p.nodup_iff.mpr h.nd, fun x => ?_⟩
    rw [p.mem_iff, h.mem, List.mem_append, List.mem_singleton]
    exact ⟨.inl, fun z => z.elim id fun e => by subst e; exact (h.mem x).mp q⟩
  · rw [if_neg q] at p
    refine ⟨p.nodup_iff.mpr (List.nodup_cons.mpr ⟨q, h.nd⟩), fun x => ?_⟩
    rw [p.mem_iff, List.mem_cons, h.mem, List.mem_append, List.mem_singleton]
    exact Or.comm
theorem IsSet.len {ks xs us : List Str} (h : IsSet ks xs) (hu : ∀ x ∈ xs, x ∈ us) : ks.length ≤ us.length := h.nd.length_le_of_subset fun x hx => hu x ((h.mem x).mp hx)
/-- ascending, each once -/
structure SrtSet (ys xs : List Str) : Prop where
  srt : sortedS ys = true
  nd : ys.Nodup
  mem : ∀ x, x ∈ ys ↔ x ∈ xs
theorem SrtSet.of {ys ks xs : List Str} (h : IsSet ks xs) (p : ys.Perm ks) (s : sortedS ys = true) : SrtSet ys xs := ⟨s, p.nodup_iff.mpr h.nd, fun x => by rw [p.mem_iff, h.mem]⟩
/-! ### sorted and len -/
def rSortedTx (w : World) : List V → Hp → VK → Prop := fun vs H Q => ∃ (a : Addr) (ks : List Str), vs = [.ref a] ∧ H a = some (TxtO w a ks) ∧ ks.length < 64 ∧ ∀ (ys : List Str) (p : Addr), ys.Perm ks → sortedS ys = true → H p = none → Q (.ref p) (upd H p (.lst (ys.map V.str)))
def rLenTx (w : World) : List V → Hp → VK → Prop := fun vs H Q => ∃ (a : Addr) (ks : List Str), vs = [.ref a] ∧ H a = some (TxtO w a ks) ∧ Q (.int ks.length) H
section
variable {X : Cx}
theorem call_sortedTx (hc : X.calm = true) : CallR X (.builtin "sorted") (rSortedTx X.w) := by
  intro pins s σ H vs us Q I r h
  obtain ⟨a, ks, rfl, ha, h64, q⟩ := h
  rw [Vals.ref1 r]
  refine txt_sorted (txt_get I ha) (I.ok.hd hc) h64 fun s' p out c ys k g o hp hg hi pm hs => ?_
  have hlen : (ys.map V.str).length ≤ sizeLine := by rw [List.length_map, pm.length_eq]; exact small64 h64
  have hn : H p = none := I.hok.fresh hp
  have J : Inv X pins σ (upd H p (.lst (ys.map V.str))) { s with heap := s'.heap, gens := s'.gens, drawn := s'.drawn, toks := s'.toks } :=
    I.call (ch := []) (Un.laid k hp hn) (I.hok.laid k hp ⟨hlen, out.toList, c, vals_of_strs hi, hg⟩) (by rw [g]; exact I.bare) (fun _ z => nomatch z)
  obtain ⟨h1, h2, h3, h4, h5⟩ := s'
  have o : h5 = s.os := o
  subst o
  exact ⟨.ref p, _, J, rfl, q ys p pm hs hn⟩
theorem call_lenTx : CallR X (.builtin "len") (rLenTx X.w) := by
  intro pins s σ H vs us Q I r h
  obtain ⟨a, ks, rfl, ha, q⟩ := h
  rw [Vals.ref1 r]
  obtain ⟨o, es, ep, t, ho, hex, hd, g, e, nd, hb, hf, hr, hl⟩ := (txt_get I ha).ex
  have hn : es.size = ks.length := by rw [e, List.length_map, Array.length_toList]
  have hb' : es.size < 4096 := hb
  refine call_len_set ho hex hd hf (by omega) ⟨.int ks.length, H, I.tok _, ⟨_, by rw [hn]⟩, q⟩
theorem call_sortedTxB (B : Bs) (h : Bx X = B) (hc : X.calm = true) : CallR X (.builtin "sorted") (rSortedTx B.w) := by subst h; exact call_sortedTx hc
theorem call_lenTxB (B : Bs) (h : Bx X = B) : CallR X (.builtin "len") (rLenTx B.w) := by subst h; exact call_lenTx
theorem wayTxtB (B : Bs) (h : Bx X = B) : SetWay X.prog X.w X.K X.A (fun D => TxtO B.w D []) (rTxt B.w) := by subst h; exact wayTxt
end
section
variable {c : Cn} {δ : List SV} {Post : List SV → SV → Prop}
theorem oa_sortedTx {a : Addr} {ks : List Str} (h64 : ks.length < 64) (k : ∀ ys : List Str, ys.Perm ks → sortedS ys = true → ∀ p, Post δ (.own p (.lst (ys.map .str)))) : OPA c (rSortedTx c.B.w) δ [.own a (.txs ks)] Post := fun σ H ρ vs Q hl S q => by
  obtain ⟨v, rfl, S⟩ := S.arg1 hl
  obtain ⟨F, g, S2, h⟩ := S.top1
  obtain ⟨e, _, _, ho⟩ := h
  have e : v = .ref a := e
  subst e
  have ho : H a = some (TxtO c.B.w a ks) := ho
  refine ⟨a, ks, rfl, ho, h64, fun ys p pm hs hp => q _ _ δ _ (k ys pm hs p) (S2.newLst hp ?_)⟩
  clear pm hs
  induction ys with
  | nil => exact .nil
  | cons y ys ih => exact .cons (by simp only [DV]) ih
theorem oa_lenTx {a : Addr} {ks : List Str} (k : Post δ (.d (.int ks.length))) : OPA c (rLenTx c.B.w) δ [.own a (.txs ks)] Post := fun σ H ρ vs Q hl S q => by
  obtain ⟨v, rfl, S⟩ := S.arg1 hl
  obtain ⟨F, g, S2, h⟩ := S.top1
  obtain ⟨e, _, _, ho⟩ := h
  have e : v = .ref a := e
  subst e
  exact ⟨a, ks, rfl, ho, q _ _ δ _ k (St.flat ⟨F, g, S2⟩ (t := .int ks.length) rfl)⟩
end
end DL

namespace DL
open PySem L2

/-! ### set comprehensions, over data -/
section
variable {c : Cn} {F : Hp} {g : Addr → Option Loc} {σ : L2.St} {H : Hp} {δ : List SV} {ρ : List (V × SV)}
/-- the temporary at n, owned, changes -/
theorem StF.updTn {a : Addr} {o o' : OW} {u : HO} {n : Nat} (S : StF c F g σ H δ ρ) (hn : ρ[n]? = some (.ref a, .own a o)) (hw : OwAt c.B F (upd H a u) a o') : StF c F g σ (upd H a u) δ (ρ.set n (.ref a, .own a o')) := by
  obtain ⟨_, h1, h2, h3⟩ := S.tm n _ hn
  obtain ⟨hF, _⟩ := S.gn a _ h1
  have hA : c.A ≠ some a := fun q => by
    obtain ⟨_, _, o, ho⟩ := S.an a q
    rw [h2] at ho; cases ho
  refine ⟨S.fh.upd2 hF, S.f0, S.fn, fun b o e hb hT => ?_, S.len, fun j s e => (S.sl j s e).mono (Ex.refl F) (fun _ h => h) fun b hb => upd_ne fun z => (by rw [z, h1] at hb; cases hb), fun m p e => ?_, fun b l e => ?_, fun b e => ?_, S.tbU h1⟩
  · have : b ≠ a := fun q => by rw [q, h2] at e; cases e
    rw [upd_ne this]; exact S.h0 b o e hb hT
  · by_cases hm : n = m
    · subst hm
      rw [List.getElem?_set_self (List.getElem?_eq_some_iff.mp hn).1] at e
      cases e
      exact ⟨rfl, h1, h2, hw⟩
    · rw [List.getElem?_set_ne hm] at e
      refine (S.tm m p e).mono (Ex.refl F) (fun _ h => h) (fun b hb => upd_ne fun z => ?_)
      rw [z, h1] at hb
      injection hb with hb; injection hb with hb
      exact hm hb
  · obtain ⟨x1, x2⟩ := S.gn b l e
    refine ⟨x1, ?_⟩
    by_cases q : b = a
    · exact ⟨u, by rw [q, upd_same]⟩
    · rw [upd_ne q]; exact x2
  · obtain ⟨x1, x2, x3⟩ := S.an b e
    exact ⟨x1, by rw [upd_ne (fun q => hA (by rw [← q]; exact e))]; exact x2, x3⟩
theorem set_same {α : Type} {xs : List α} {n : Nat} {x : α} (h : xs[n]? = some x) : xs.set n x = xs := by
  apply List.ext_getElem?
  intro i
  by_cases q : n = i
  · subst q; rw [List.getElem?_set_self (List.getElem?_eq_some_iff.mp h).1, h]
  · rw [List.getElem?_set_ne q]
theorem sc_turn {gt : TG} {tt : TT} {te : TE} {vs : List Nat} {n : Nat} {Dl : Addr} {ks xs U : List Str} {J : List Str → List SV → Prop} {t : T} {x : V} (hn : ρ[n]? = some (.ref Dl, .own Dl (.txs ks))) (is : IsSet ks xs) (hu : ∀ x ∈ xs, x ∈ U) (hU : U.length + 1 < scanBound)
    (hs : GT c gt (· ∈ vs) (.d t) (wd δ vs) fun δ2 => EVT c tt δ2 fun δ3 b => if b = true then EV c te δ3 fun δ4 r => ∃ k : Str, r = .d (.str k) ∧ k ∈ U ∧ J (xs ++ [k]) (wd δ4 vs) else J xs (wd δ3 vs))
    (S : StF c F g σ H δ ρ) (hx : DV c.B F x t) (Nx : Hp → Prop) (hN : ∀ H' xs' ks' δ', J xs' δ' → IsSet ks' xs' → (∀ x ∈ xs', x ∈ U) → St c σ H' δ' (ρ.set n (.ref Dl, .own Dl (.txs ks'))) → Nx H') :
    gt x (wipe σ vs) H fun σ2 H2 => wipe σ2 vs = wipe σ vs ∧ tt σ2 H2 fun b H3 => if b = true then te σ2 H3 fun y H4 => rTxt c.B.w Dl y H4 Nx else Nx H3 := by
  refine hs x (wipe σ vs) H _ _ ⟨F, g, S.wipe vs, hx⟩ fun σ2 H2 δ2 k2 S2 o => ?_
  have e2 : wipe σ2 vs = wipe σ vs := (wipe_only o).trans (wipe_wipe σ vs)
  refine ⟨e2, k2 σ2 H2 _ _ S2 fun b H3 δ3 k3 S3 => ?_⟩
  cases b with
  | false =>
    obtain ⟨F3, g3, S3⟩ := S3
    exact hN _ xs ks _ k3 is hu ⟨F3, g3, by rw [set_same hn]; exact S3.unwipe e2⟩
  | true =>
    rw [if_pos rfl] at k3 ⊢
    refine k3 σ2 H3 _ _ S3 fun y H4 δ4 r ⟨k, er, hk, k4⟩ S4 => ?_
    subst er
    obtain ⟨F5, g5, S5, hy⟩ := S4
    have hy : y = .str k := DV.str_ (B := c.B) (F := F5) hy
    subst hy
    obtain ⟨_, h1, h2, h3⟩ := S5.tm n _ hn
    have h3 : H4 Dl = some (TxtO c.B.w Dl ks) := h3
    have hl : ks.length ≤ U.length := is.len hu
    refine ⟨ks, k, rfl, h3, by omega, fun ks' pm => hN _ (xs ++ [k]) ks' _ k4 (is.add pm) (fun z hz => ?_) ⟨F5, g5, (S5.updTn (o' := .txs ks') hn (show OwAt c.B F5 _ Dl (.txs ks') from upd_same)).unwipe e2⟩⟩
    rcases List.mem_append.mp hz with hz | hz
    · exact hu z hz
    · rw [List.mem_singleton] at hz; subst hz; exact hk
theorem sc_start {vs : List Nat} {Dl : Addr} (S : StF c F g σ H δ ρ) (hD : H Dl = none) : ∃ g', StF c F g' σ (upd H Dl (TxtO c.B.w Dl [])) (wd δ vs) (ρ ++ [(.ref Dl, .own Dl (.txs []))]) := by
  obtain ⟨g', S1, h1, h2, h3⟩ := S.newOwn (u := TxtO c.B.w Dl []) hD
  have S2 := (S1.retag (l := .tmp ρ.length) h1).push (p := (.ref Dl, .own Dl (.txs []))) ⟨rfl, if_pos rfl, h3, upd_same⟩
  exact ⟨_, S2.unwipe rfl⟩
/-- what is gone through: its temporary stands at n -/
structure DItN (c : Cn) (J : It) (n : Nat) (p : V × SV) (O : List SV → Prop) (ts : List T) : Prop where
  go : ∀ {i : Nat} {σ : L2.St} {H : Hp} {δ : List SV} {ρ : List (V × SV)}, i < ts.length → O δ → ρ[n]? = some p → St c σ H δ ρ → J.go i H
  yld : ∀ {i : Nat} {σ : L2.St} {H H' : Hp} {δ : List SV} {ρ : List (V × SV)} {x : V}, i < ts.length → O δ → ρ[n]? = some p → St c σ H δ ρ → J.yld i H x H' → ∃ t, ts[i]? = some t ∧ St1 c σ H' δ ρ x (.d t)
  stop : ∀ {σ : L2.St} {H : Hp} {δ : List SV} {ρ : List (V × SV)}, O δ → ρ[n]? = some p → St c σ H δ ρ → J.stop ts.length H
def EVJ (c : Cn) (ti : TI) (δ : List SV) (P : List SV → (List SV → Prop) → List T → Prop) : Prop :=
  ∀ σ H ρ R, St c σ H δ ρ → (∀ J H' δ' p O ts, P δ' O ts → DItN c J ρ.length p O ts → St c σ H' δ' (ρ ++ [p]) → R J H') → ti σ H R
theorem ej_L {tl : TE} {P : List SV → (List SV → Prop) → List T → Prop} (h : EV c tl δ fun δ1 r => ∃ ts, Pu r (.d (.lst ts)) ∧ P δ1 (fun _ => True) ts) : EVJ c (iList c.B.K tl) δ P := fun σ H ρ R S q =>
  h σ H ρ _ S fun v H1 δ1 r ⟨ts, p, k⟩ S1 => by
    obtain ⟨F, gg, S2⟩ := S1.put p
    have hv : DV c.B F v (.lst ts) := S2.last
    simp only [DV] at hv
    obtain ⟨a, xs, rfl, hx, hxs⟩ := hv
    have hlen := hxs.length
    have key : ∀ {σ : L2.St} {H : Hp} {δ : List SV} {ρ' : List (V × SV)}, ρ'[ρ.length]? = some (V.ref a, SV.lv xs ts) → St c σ H δ ρ' → ∃ F gg, StF c F gg σ H δ ρ' ∧ SqL c.B.K F a xs ∧ DVs c.B F xs ts := fun hp ⟨F, gg, S⟩ => by
      obtain ⟨b, e, hx, hd⟩ := S.tm _ _ hp
      cases e; exact ⟨F, gg, S, hx, hd⟩
    refine ⟨a, rfl, ⟨xs, SqL.of (S2.fh _ _ hx)⟩, q (Itl c.B.K a) H1 δ1 (.ref a, .lv xs ts) _ _ k ⟨?_, ?_, ?_⟩ ⟨F, gg, S2.drop.push ⟨a, rfl, SqL.of hx, hxs⟩⟩⟩
    · intro i σ H δ ρ' hi _ hp S
      obtain ⟨F, gg, S, h1, h2⟩ := key hp S
      rw [← hlen] at hi
      exact ⟨xs, xs[i], S.fh.sql h1, by simp [hi]⟩
    · rintro i σ H H' δ ρ' y hi _ hp S ⟨rfl, hh⟩
      obtain ⟨F, gg, S, h1, hd⟩ := key hp S
      obtain ⟨t, ht, hxt⟩ := hd.get' (hh xs (S.fh.sql h1))
      exact ⟨t, ht, F, gg, S, hxt⟩
    · intro σ H δ ρ' _ hp S
      obtain ⟨F, gg, S, h1, h2⟩ := key hp S
      exact ⟨xs, S.fh.sql h1, by rw [hlen]; exact Nat.le_refl _⟩
end
section
variable {c : Cn} {δ : List SV} {Post : List SV → SV → Prop} {ti tj : TI} {g gj : TG} {tt tu : TT} {te : TE} {vs vj : List Nat}
theorem ev_scI (U : List Str) (hU : U.length + 1 < scanBound) (h : EVI c ti δ fun δ1 O ts => ∃ I : Nat → List Str → List SV → Prop, I 0 [] (wd δ1 vs) ∧ (∀ i xs δ, I i xs δ → O δ) ∧
    (∀ i t xs δ, ts[i]? = some t → I i xs δ → GT c g (· ∈ vs) (.d t) (wd δ vs) fun δ2 => EVT c tt δ2 fun δ3 b => if b = true then EV c te δ3 fun δ4 r => ∃ k : Str, r = .d (.str k) ∧ k ∈ U ∧ I (i + 1) (xs ++ [k]) (wd δ4 vs) else I (i + 1) xs (wd δ3 vs)) ∧
    ∀ xs ks δ, I ts.length xs δ → IsSet ks xs → (∀ x ∈ xs, x ∈ U) → ∀ p, Post δ (.own p (.txs ks))) : EV c (tScG (fun D => TxtO c.B.w D []) (rTxt c.B.w) ti g tt te vs) δ Post := fun σ H ρ Q S q =>
  h σ H ρ _ S fun J H1 δ1 p O ts ⟨I, h0, hO, hs, hd⟩ DI S1 => fun Dl hD => by
    obtain ⟨F1, g1, S4⟩ := S1
    obtain ⟨g2, S5⟩ := sc_start (vs := vs) S4 hD
    refine ⟨fun i m H => m = ts.length - i ∧ i ≤ ts.length ∧ ∃ xs ks δ, IsSet ks xs ∧ (∀ x ∈ xs, x ∈ U) ∧ I i xs δ ∧ St c σ H δ ((ρ ++ [p]) ++ [(.ref Dl, .own Dl (.txs ks))]), ⟨ts.length, by simp, Nat.zero_le _, [], [], _, .nil, (fun _ h => nomatch h), h0, F1, g2, S5⟩, ?_⟩
    rintro i m H2 ⟨rfl, hi, xs, ks, δ2, is, hu, k, S6⟩
    by_cases hlt : i < ts.length
    · refine .inr ⟨DI.go hlt (hO _ _ _ k) S6, fun H' => ∃ xs ks δ, IsSet ks xs ∧ (∀ x ∈ xs, x ∈ U) ∧ I (i + 1) xs δ ∧ St c σ H' δ ((ρ ++ [p]) ++ [(.ref Dl, .own Dl (.txs ks))]), fun H' p' => ⟨ts.length - (i + 1), by omega, rfl, hlt, p'⟩, fun x H' y => ?_⟩
      obtain ⟨t, ht, F3, g3, S7, hx⟩ := DI.yld hlt (hO _ _ _ k) S6 y
      have hx : DV c.B F3 x t := hx
      have hn : ((ρ ++ [p]) ++ [(V.ref Dl, SV.own Dl (.txs ks))])[(ρ ++ [p]).length]? = some (.ref Dl, .own Dl (.txs ks)) := by rw [List.getElem?_append_right (Nat.le_refl _)]; simp
      refine sc_turn (J := I (i + 1)) hn is hu hU (hs i t xs δ2 ht k) S7 hx _ fun H' xs' ks' δ' k' is' hu' S' => ⟨xs', ks', δ', is', hu', k', ?_⟩
      rw [List.set_append_right _ _ (Nat.le_refl _), Nat.sub_self] at S'
      exact S'
    · have e : i = ts.length := by omega
      subst e
      obtain ⟨F, g, S8⟩ := S6
      have S7 : St1 c σ H2 δ2 (ρ ++ [p]) (.ref Dl) (.own Dl (.txs ks)) := St.popO ⟨F, g, S8⟩
      obtain ⟨F, g, S7, t7⟩ := S7
      exact .inl ⟨DI.stop (hO _ _ _ k) ⟨_, _, S8⟩, q _ H2 δ2 _ (hd xs ks δ2 k is hu Dl) ⟨F, g, S7.drop, t7⟩⟩
/-- two clauses -/
theorem ev_sc2 (U : List Str) (hU : U.length + 1 < scanBound) (h : EVI c ti δ fun δ1 O ts => ∃ I : Nat → List Str → List SV → Prop, I 0 [] (wd δ1 vs) ∧ (∀ i xs δ, I i xs δ → O δ) ∧
    (∀ i t xs δ, ts[i]? = some t → I i xs δ → GT c g (· ∈ vs) (.d t) (wd δ vs) fun δ2 => EVT c tt δ2 fun δ3 b => if b = true then
        EVJ c tj δ3 fun δ4 O' us => ∃ I' : Nat → List Str → List SV → Prop, I' 0 xs δ4 ∧ (∀ j xs δ, I' j xs δ → O' δ) ∧
          (∀ j t xs δ, us[j]? = some t → I' j xs δ → GT c gj (· ∈ vj) (.d t) (wd δ vj) fun δ5 => EVT c tu δ5 fun δ6 b => if b = true then EV c te δ6 fun δ7 r => ∃ k : Str, r = .d (.str k) ∧ k ∈ U ∧ I' (j + 1) (xs ++ [k]) (wd δ7 vj) else I' (j + 1) xs (wd δ6 vj)) ∧
          ∀ xs δ, I' us.length xs δ → I (i + 1) xs (wd δ vs)
      else I (i + 1) xs (wd δ3 vs)) ∧
    ∀ xs ks δ, I ts.length xs δ → IsSet ks xs → (∀ x ∈ xs, x ∈ U) → ∀ p, Post δ (.own p (.txs ks))) : EV c (tScG2 (fun D => TxtO c.B.w D []) (rTxt c.B.w) ti g tt tj gj tu te vs vj) δ Post := fun σ H ρ Q S q =>
  h σ H ρ _ S fun J H1 δ1 p O ts ⟨I, h0, hO, hs, hd⟩ DI S1 => fun Dl hD => by
    obtain ⟨F1, g1, S4⟩ := S1
    obtain ⟨g2, S5⟩ := sc_start (vs := vs) S4 hD
    refine ⟨fun i m H => m = ts.length - i ∧ i ≤ ts.length ∧ ∃ xs ks δ, IsSet ks xs ∧ (∀ x ∈ xs, x ∈ U) ∧ I i xs δ ∧ St c σ H δ ((ρ ++ [p]) ++ [(.ref Dl, .own Dl (.txs ks))]), ⟨ts.length, by simp, Nat.zero_le _, [], [], _, .nil, (fun _ h => nomatch h), h0, F1, g2, S5⟩, ?_⟩
    rintro i m H2 ⟨rfl, hi, xs, ks, δ2, is, hu, k, S6⟩
    by_cases hlt : i < ts.length
    · refine .inr ⟨DI.go hlt (hO _ _ _ k) S6, fun H' => ∃ xs ks δ, IsSet ks xs ∧ (∀ x ∈ xs, x ∈ U) ∧ I (i + 1) xs δ ∧ St c σ H' δ ((ρ ++ [p]) ++ [(.ref Dl, .own Dl (.txs ks))]), fun H' p' => ⟨ts.length - (i + 1), by omega, rfl, hlt, p'⟩, fun x H' y => ?_⟩
      obtain ⟨t, ht, F3, g3, S7, hx⟩ := DI.yld hlt (hO _ _ _ k) S6 y
      have hx : DV c.B F3 x t := hx
      refine hs i t xs δ2 ht k x (wipe σ vs) _ _ _ ⟨F3, g3, S7.wipe vs, hx⟩ fun σ2 H3 δ3 k3 S8 o => ?_
      have e2 : wipe σ2 vs = wipe σ vs := (wipe_only o).trans (wipe_wipe σ vs)
      refine ⟨e2, k3 σ2 H3 _ _ S8 fun b H4 δ4 k4 S9 => ?_⟩
      cases b with
      | false =>
        obtain ⟨F4, g4, S9⟩ := S9
        exact ⟨xs, ks, _, is, hu, k4, F4, g4, S9.unwipe e2⟩
      | true =>
        rw [if_pos rfl] at k4 ⊢
        refine k4 σ2 H4 _ _ S9 fun J' H5 δ5 p' O' us ⟨I', j0, jO, js, jd⟩ DJ S10 => ?_
        have hN : ((ρ ++ [p]) ++ [(V.ref Dl, SV.own Dl (.txs ks))]).length = (ρ ++ [p]).length + 1 := by rw [List.length_append]; rfl
        rw [hN] at DJ
        have at1 : ∀ ks : List Str, (((ρ ++ [p]) ++ [(V.ref Dl, SV.own Dl (.txs ks))]) ++ [p'])[(ρ ++ [p]).length + 1]? = some p' := fun ks => by
          rw [List.getElem?_append_right (by simp)]; simp
        have at2 : ∀ ks : List Str, (((ρ ++ [p]) ++ [(V.ref Dl, SV.own Dl (.txs ks))]) ++ [p'])[(ρ ++ [p]).length]? = some (.ref Dl, .own Dl (.txs ks)) := fun ks => by
          rw [List.append_assoc, List.getElem?_append_right (Nat.le_refl _), Nat.sub_self]; rfl
        refine ⟨fun j n H => n = us.length - j ∧ j ≤ us.length ∧ ∃ xs ks δ, IsSet ks xs ∧ (∀ x ∈ xs, x ∈ U) ∧ I' j xs δ ∧ St c σ2 H δ (((ρ ++ [p]) ++ [(.ref Dl, .own Dl (.txs ks))]) ++ [p']), ⟨us.length, by simp, Nat.zero_le _, xs, ks, _, is, hu, j0, S10⟩, ?_⟩
        rintro j n H6 ⟨rfl, hj, xs, ks, δ6, is, hu, kj, S11⟩
        by_cases hlj : j < us.length
        · refine .inr ⟨DJ.go hlj (jO _ _ _ kj) (at1 ks) S11, fun H' => ∃ xs ks δ, IsSet ks xs ∧ (∀ x ∈ xs, x ∈ U) ∧ I' (j + 1) xs δ ∧ St c σ2 H' δ (((ρ ++ [p]) ++ [(.ref Dl, .own Dl (.txs ks))]) ++ [p']), fun H' p' => ⟨us.length - (j + 1), by omega, rfl, hlj, p'⟩, fun x H' y => ?_⟩
          obtain ⟨t, ht, F7, g7, S12, hx⟩ := DJ.yld hlj (jO _ _ _ kj) (at1 ks) S11 y
          have hx : DV c.B F7 x t := hx
          refine sc_turn (J := I' (j + 1)) (at2 ks) is hu hU (js j t xs δ6 ht kj) S12 hx _ fun H' xs' ks' δ' k' is' hu' S' => ⟨xs', ks', δ', is', hu', k', ?_⟩
          have e3 : (((ρ ++ [p]) ++ [(V.ref Dl, SV.own Dl (.txs ks))]) ++ [p']).set (ρ ++ [p]).length (V.ref Dl, .own Dl (.txs ks')) = ((ρ ++ [p]) ++ [(V.ref Dl, SV.own Dl (.txs ks'))]) ++ [p'] := by
            rw [List.append_assoc (ρ ++ [p]), List.set_append_right _ _ (Nat.le_refl _), Nat.sub_self, List.append_assoc (ρ ++ [p])]; rfl
          rw [e3] at S'
          exact S'
        · have e : j = us.length := by omega
          subst e
          refine .inl ⟨DJ.stop (jO _ _ _ kj) (at1 ks) S11, ?_⟩
          obtain ⟨F8, g8, S13⟩ := S11
          exact ⟨xs, ks, _, is, hu, jd xs δ6 kj, F8, g8, S13.drop.unwipe e2⟩
    · have e : i = ts.length := by omega
      subst e
      obtain ⟨F, g, S8⟩ := S6
      have S7 : St1 c σ H2 δ2 (ρ ++ [p]) (.ref Dl) (.own Dl (.txs ks)) := St.popO ⟨F, g, S8⟩
      obtain ⟨F, g, S7, t7⟩ := S7
      exact .inl ⟨DI.stop (hO _ _ _ k) ⟨_, _, S8⟩, q _ H2 δ2 _ (hd xs ks δ2 k is hu Dl) ⟨F, g, S7.drop, t7⟩⟩
end
end DL

namespace DL
open PySem L2 PySem.Spec PyProof.Rows
end DL

namespace DL
open PySem PySem.Spec PyProof.Rows L2

/-! ### set(a list of texts) -/
/-! ### as a reading, over data -/
def rSetL (B : Bs) : List V → Hp → VK → Prop := fun vs H Q => ∃ (p : Addr) (xs : List Str), vs = [.ref p] ∧ SqL B.K H p (xs.map V.str) ∧ xs.length + 1 < scanBound ∧ ∀ a ks, IsSet ks xs → H a = none → Q (.ref a) (upd H a (TxtO B.w a ks))
end DL

namespace DL
open PySem PySem.Spec PyProof.Rows L2

/-! ### errors: made -/
def spErr (K : PySem.W.Frag) : Sp := fun vs H Q _ => ∃ (a C : Addr) (v : V), vs = [.ref a, v] ∧ OexC K C ∧ PySem.W.findIn K (.ref C) "value" = some none ∧ H a = some (exo a C none) ∧
  ∀ dx, H dx = none → dx ≠ a → Q .non (upd (upd H dx (exd dx [("value", v)])) a (exo a C (some dx)))
/-- what is told of the class of an error -/
structure ErrC (K : PySem.W.Frag) (C : Addr) : Prop where
  ox : OexC K C
  xf : XfC K C
  xc : ExcC K C
  nv : PySem.W.findIn K (.ref C) "value" = some none
/-- the error's dict stands by itself -/
structure XSt (c : Cn) (F : Hp) (g : Addr → Option Loc) (H : Hp) (d : Addr) (t : T) : Prop where
  at_ : ∃ v, H d = some (.xd [("value", v)]) ∧ DV c.B F v t
  fd : F d = none
  gd : g d = none
  hd : c.H0 d = none
/-! ### promises of data that may end in an error -/
structure AfterX (B : Bs) (F H : Hp) (d : Addr) (t : T) (H' F' : Hp) : Prop where
  ef : Ex F F'
  fh : Ex F' H'
  fn : ∀ a o, H a = some o → F' a = F a
  eh : Ex H H'
  dn : H d = none
  at_ : ∃ v, H' d = some (.xd [("value", v)]) ∧ DV B F' v t
  fd : F' d = none
section
variable {c : Cn} {δ : List SV} {Post : List SV → SV → Prop} {ta : TA} {E : XK} {R : DEnds}
/-! ### try, at the statement -/
/-- a reading holds at a state, with the ends of the def and of the try -/
def ESr (c : Cn) (ρ : List (V × SV)) (D : Ends) (t : TS) (δ : List SV) : Prop := ∀ σ H, St c σ H δ ρ → t D σ H
/-- what an error in the body meets -/
def MeetsX (c : Cn) (ρ : List (V × SV)) (W : WX) (RX : List SV → Addr → T → Prop) : Prop := ∀ C t d σ H δ F g, RX δ C t → StF c F g σ H δ ρ → XSt c F g H d t → W (.ref C) (some d) σ H
theorem ESr.of {ρ : List (V × SV)} {D : Ends} {t : TS} (h : ES c t δ R) (M : Meets c ρ D R) : ESr c ρ D t δ := fun σ H S => h σ H ρ D S M
/-! what a suite reads of the error that it holds: it changes nothing -/
end
end DL

namespace DL
open PySem PySem.Spec PyProof.Rows L2

/-! ### in a suite: n.f and isinstance(n, ..) of the error, whatever its class -/
/-! over data -/
end DL

namespace DL
open PySem PySem.Spec PyProof.Rows L2

/-! ### f(k = v, ..): keywords alone -/
/-! ### the class of an error, its maker -/
structure ErI (P : Program) (w : World) (K : PySem.W.Frag) (mg : Str → Option Value) (base : Heap) where
  f : Addr
  fd : FuncData
  ok : FnOk P w K mg base CX0 1 f fd ["self", "value"] (spErr K)
  bd : Binds K fd ["self", "value"] []
  ty : PySem.W.typeIn K (.ref f) = some (.type "function")
structure Er {P : Program} {w : World} {K : PySem.W.Frag} {mg : Str → Option Value} {base : Heap} (I : ErI P w K mg base) (x : Str) (C : Addr) : Prop where
  c : ErrC K C
  g : mg x = some (.ref C)
  i : PySem.W.findIn K (.ref C) "__init__" = some (some (.ref I.f))
end DL

namespace DL
open PySem PySem.Spec PyProof.Rows L2

/-! ### promises with an owned first argument that may end in an error -/
structure AfterMX (B : Bs) (F H : Hp) (m d : Addr) (t : T) (H' F' : Hp) : Prop where
  ef : Ex F F'
  fh : Ex F' H'
  fn : ∀ a o, H a = some o → F' a = F a
  eh : ∀ a o, a ≠ m → H a = some o → H' a = some o
  dn : H d = none
  at_ : ∃ v, H' d = some (.xd [("value", v)]) ∧ DV B F' v t
  fd : F' d = none
end DL

namespace DL
open PySem PySem.Spec PyProof.Rows L2

/-! ### x op y of an own class, in a try -/
/-! ### x in l, of data of any depth -/
end DL

namespace DL
open PySem PySem.Spec PyProof.Rows L2

/-! ### dict(list of pairs), keys numbers or texts -/
/-! ### zip of two lists -/
end DL

namespace DL
open PySem PySem.Spec PyProof.Rows L2

/-! ### l.count(x), of data of any depth -/
end DL

namespace DL
open PySem PySem.Spec PyProof.Rows L2

/-! ### o.m(..) in a try -/
end DL

namespace DL
open PySem PySem.Spec PyProof.Rows L2

/-! ### an owned list given to a def of data that may end in an error: what is answered holds no list -/
section
variable {B : Bs} {F : Hp} {a : Addr} {xs : List V}
/-- data, and one owned list -/
inductive AsL (a : Addr) (us : List T) : List SV → List T → Prop
  | nil : AsL a us [] []
  | d {t : T} {ss : List SV} {ts : List T} (r : AsL a us ss ts) : AsL a us (.d t :: ss) (t :: ts)
  | o {ss : List SV} {ts : List T} (r : AsL a us ss ts) : AsL a us (.ptr a :: ss) (.lst us :: ts)
end
end DL

namespace DL
open PySem PySem.Spec PyProof.Rows L2
end DL

namespace DL
open PySem PySem.Spec PyProof.Rows L2

/-! ### a promise whose second argument is a list of the caller's, which stays as it is and is no part of what is answered; it may end in an error -/
structure AfterMX2 (B : Bs) (F H : Hp) (m d : Addr) (us : OW) (t : T) (H' F' : Hp) : Prop where
  x : AfterMX B F H m d t H' F'
  lst : OwAt B F' H' m us
end DL

namespace DL
open PySem PySem.Spec PyProof.Rows L2
end DL

namespace DL
open PySem PySem.Spec PyProof.Rows L2
end DL

namespace DL
open PySem PySem.Spec PyProof.Rows L2
end DL

namespace DL
open PySem PySem.Spec PyProof.Rows L2
/-! ### what is shown is a text -/
mutual
/-- all texts in it are texts -/
def leafOk : PyData → Prop
  | .none | .bool _ | .int _ => True
  | .str x => ∀ c ∈ x.cps.toList, c < 1114112
  | .list xs | .tuple xs => leafOks xs
  | .dict _ => False
def leafOks : List PyData → Prop
  | [] => True
  | x :: xs => leafOk x ∧ leafOks xs
end
theorem leafOks_of {ds : List PyData} (h : ∀ d ∈ ds, leafOk d) : leafOks ds := by
  induction ds with
  | nil => simp only [leafOks]
  | cons d ds ih => simp only [leafOks]; exact ⟨h d List.mem_cons_self, ih fun x hx => h x (List.mem_cons_of_mem _ hx)⟩
end DL

namespace DL
open PySem PySem.Spec PyProof.Rows L2
end DL

namespace DL
open PySem PySem.Spec PyProof.Rows L2
/-! ### lists that are owned with the lists in them -/
def NI.tr : NI → T
  | .o _ ts => .lst ts
  | .d t => t
  | .pr _ _ t1 _ t2 => .tup [.lst t1, .lst t2]
theorem adrs_cons (n : NI) (ns : List NI) : adrs (n :: ns) = n.adr ++ adrs ns := by unfold adrs; rw [List.map_cons, List.flatten_cons]
theorem adrs_app (ns ms : List NI) : adrs (ns ++ ms) = adrs ns ++ adrs ms := by unfold adrs; rw [List.map_append, List.flatten_append]
theorem adrs_mem {ns : List NI} {k : Nat} {b : Addr} {ts : List T} (h : ns[k]? = some (.o b ts)) : b ∈ adrs ns := by
  unfold adrs
  rw [List.mem_flatten]
  exact ⟨[b], List.mem_map.mpr ⟨_, List.mem_of_getElem? h, rfl⟩, by simp⟩
theorem adrs_setO : ∀ {ns : List NI} {k : Nat} {b : Addr} {ts us : List T}, ns[k]? = some (.o b ts) → adrs (ns.set k (.o b us)) = adrs ns
  | [], _, _, _, _, h => by simp at h
  | n :: ns, 0, b, ts, us, h => by
    simp at h; subst h
    rw [List.set_cons_zero, adrs_cons, adrs_cons]; rfl
  | n :: ns, k + 1, b, ts, us, h => by
    rw [List.set_cons_succ, adrs_cons, adrs_cons, adrs_setO (k := k) (by simpa using h)]
theorem adrs_setD : ∀ (ns : List NI) (k : Nat) (t : T), (adrs (ns.set k (.d t))).Sublist (adrs ns)
  | [], _, _ => by simp
  | n :: ns, 0, t => by
    rw [List.set_cons_zero, adrs_cons, adrs_cons]
    exact List.sublist_append_right _ _
  | n :: ns, k + 1, t => by
    rw [List.set_cons_succ, adrs_cons, adrs_cons]
    exact (List.Sublist.refl _).append (adrs_setD ns k t)
theorem NisAt.setO {B : Bs} {F H : Hp} {b : Addr} {ys : List V} {ts us : List T} (hd : DVs B F ys us) : ∀ {vs : List V} {ns : List NI} {k : Nat}, NisAt B F H vs ns → ns[k]? = some (.o b ts) → (adrs ns).Nodup → NisAt B F (upd H b (.lst ys)) vs (ns.set k (.o b us))
  | [], [], _, _, h, _ => by simp at h
  | [], _ :: _, _, q, _, _ => q.elim
  | _ :: _, [], _, q, _, _ => q.elim
  | v :: vs, n :: ns, 0, q, h, nd => by
    simp at h; subst h
    rw [adrs_cons] at nd
    have hnb : b ∉ adrs ns := fun hb => (List.nodup_append.mp nd).2.2 b (by simp [NI.adr]) b hb rfl
    exact ⟨⟨q.1.1, ys, upd_same, hd⟩, q.2.mono (Ex.refl F) fun x hx => upd_ne fun e => hnb (e ▸ hx)⟩
  | v :: vs, n :: ns, k + 1, q, h, nd => by
    have h : ns[k]? = some (.o b ts) := by simpa using h
    rw [adrs_cons] at nd
    obtain ⟨nd1, nd2, nd3⟩ := List.nodup_append.mp nd
    exact ⟨q.1.mono (Ex.refl F) fun x hx => upd_ne fun e => nd3 x hx b (adrs_mem h) e, NisAt.setO hd q.2 h nd2⟩
theorem NisAt.setD {B : Bs} {F H : Hp} {t : T} {v : V} (hv : DV B F v t) : ∀ {vs : List V} {ns : List NI} (k : Nat), NisAt B F H vs ns → NisAt B F H (vs.set k v) (ns.set k (.d t))
  | [], [], _, q => q
  | [], _ :: _, _, q => q.elim
  | _ :: _, [], _, q => q.elim
  | w :: vs, n :: ns, 0, q => ⟨hv, q.2⟩
  | w :: vs, n :: ns, k + 1, q => ⟨q.1, NisAt.setD hv k q.2⟩
theorem NisAt.snoc {B : Bs} {F H : Hp} {v : V} {n : NI} (h : NiAt B F H v n) : ∀ {vs : List V} {ns : List NI}, NisAt B F H vs ns → NisAt B F H (vs ++ [v]) (ns ++ [n])
  | [], [], _ => ⟨h, True.intro⟩
  | [], _ :: _, q => q.elim
  | _ :: _, [], q => q.elim
  | w :: vs, m :: ns, q => ⟨q.1, NisAt.snoc h q.2⟩
theorem NisAt.other {B : Bs} {F H : Hp} {a : Addr} {u : HO} {vs : List V} {ns : List NI} (h : a ∉ adrs ns) (q : NisAt B F H vs ns) : NisAt B F (upd H a u) vs ns := q.mono (Ex.refl F) fun b hb => upd_ne fun e => h (e ▸ hb)
section
variable {c : Cn} {F : Hp} {g : Addr → Option Loc} {σ : L2.St} {H : Hp} {δ : List SV} {ρ : List (V × SV)} {i : Nat} {a b : Addr} {ns ns' : List NI} {u : HO}
theorem NstAt.own {l : Loc} (q : NstAt c F g H l a ns) (hb : b = a ∨ b ∈ adrs ns) : g b = some l ∧ c.H0 b = none := by
  rcases hb with rfl | hb
  · exact ⟨q.ga, q.h0⟩
  · exact ⟨(q.gi b hb).1, (q.gi b hb).2.1⟩
theorem StF.updB {l : Loc} (S : StF c F g σ H δ ρ) (hg : g b = some l) (h0 : c.H0 b = none) (hs : ∀ j s, δ[j]? = some s → l ≠ .slot j) (ht : ∀ n p, ρ[n]? = some p → l ≠ .tmp n) : StF c F g σ (upd H b u) δ ρ := by
  obtain ⟨hF, _⟩ := S.gn b _ hg
  have hA : c.A ≠ some b := fun q => by
    obtain ⟨_, _, o, ho⟩ := S.an b q
    rw [h0] at ho; cases ho
  refine ⟨S.fh.upd2 hF, S.f0, S.fn, fun x o e hx hT => ?_, S.len, fun j s e => (S.sl j s e).mono (Ex.refl F) (fun _ h => h) fun x hx => upd_ne fun z => hs j s e (by rw [z, hg] at hx; injection hx), fun n p e => (S.tm n p e).mono (Ex.refl F) (fun _ h => h) (fun x hx => upd_ne fun z => ht n p e (by rw [z, hg] at hx; injection hx)), fun x l' e => ?_, fun x e => ?_, S.tbU hg⟩
  · have : x ≠ b := fun q => by rw [q, h0] at e; cases e
    rw [upd_ne this]; exact S.h0 x o e hx hT
  · obtain ⟨x1, x2⟩ := S.gn x l' e
    refine ⟨x1, ?_⟩
    by_cases q : x = b
    · exact ⟨u, by rw [q, upd_same]⟩
    · rw [upd_ne q]; exact x2
  · obtain ⟨x1, x2, x3⟩ := S.an x e
    exact ⟨x1, by rw [upd_ne (fun q => hA (by rw [← q]; exact e))]; exact x2, x3⟩
/-- something that slot i owns, within or not, is changed -/
theorem StF.updN (S : StF c F g σ H δ ρ) (h : δ[i]? = some (.nst a ns)) (hb : b = a ∨ b ∈ adrs ns) (hn : NstAt c F g (upd H b u) (.slot i) a ns') : StF c F g σ (upd H b u) (δ.set i (.nst a ns')) ρ := by
  obtain ⟨e1, q⟩ := S.sl i _ h
  obtain ⟨hg, h0⟩ := q.own hb
  have S0 : StF c F g σ H (δ.set i .no) ρ := ⟨S.fh, S.f0, S.fn, S.h0, by rw [List.length_set]; exact S.len, fun j s e => by
    by_cases z : j = i
    · subst z
      rw [List.getElem?_set_self (List.getElem?_eq_some_iff.mp h).1] at e
      cases e; trivial
    · rw [List.getElem?_set_ne (Ne.symm z)] at e; exact S.sl j s e, S.tm, S.gn, S.an, S.tb⟩
  have S1 : StF c F g σ (upd H b u) (δ.set i .no) ρ := by
    obtain ⟨hF, _⟩ := S.gn b _ hg
    have hA : c.A ≠ some b := fun q => by
      obtain ⟨_, _, o, ho⟩ := S.an b q
      rw [h0] at ho; cases ho
    refine ⟨S.fh.upd2 hF, S.f0, S.fn, fun x o e hx hT => ?_, S0.len, fun j s e => ?_, fun n p e => (S.tm n p e).mono (Ex.refl F) (fun _ h => h) (fun x hx => upd_ne fun z => by rw [z, hg] at hx; cases hx), fun x l' e => ?_, fun x e => ?_, S.tbU hg⟩
    · have : x ≠ b := fun q => by rw [q, h0] at e; cases e
      rw [upd_ne this]; exact S.h0 x o e hx hT
    · by_cases z : j = i
      · subst z
        rw [List.getElem?_set_self (List.getElem?_eq_some_iff.mp h).1] at e
        cases e; trivial
      · exact (S0.sl j s e).mono (Ex.refl F) (fun _ h => h) fun x hx => upd_ne fun y => by
          rw [y, hg] at hx
          injection hx with hx; injection hx with hx
          exact z hx.symm
    · obtain ⟨x1, x2⟩ := S.gn x l' e
      refine ⟨x1, ?_⟩
      by_cases q : x = b
      · exact ⟨u, by rw [q, upd_same]⟩
      · rw [upd_ne q]; exact x2
    · obtain ⟨x1, x2, x3⟩ := S.an x e
      exact ⟨x1, by rw [upd_ne (fun q => hA (by rw [← q]; exact e))]; exact x2, x3⟩
  refine ⟨S1.fh, S1.f0, S1.fn, S1.h0, by rw [List.length_set]; exact S.len, fun j s e => ?_, S1.tm, S1.gn, S1.an, S1.tb⟩
  by_cases z : j = i
  · subst z
    rw [List.getElem?_set_self (List.getElem?_eq_some_iff.mp h).1] at e
    cases e
    exact ⟨e1, hn⟩
  · rw [List.getElem?_set_ne (Ne.symm z)] at e
    exact S1.sl j s (by rw [List.getElem?_set_ne (Ne.symm z)]; exact e)
end
section
variable {c : Cn} {δ : List SV} {Post : List SV → SV → Prop} {ta te : TE} {i j k n : Nat} {a b : Addr} {ns : List NI} {ts : List T} {t : T} {R : DEnds}
theorem ev_ptrN (h : δ[i]? = some (.nst a ns)) (k : Post δ (.ptr a)) : EV c (tVar i) δ Post := fun σ H ρ Q S q => by
  obtain ⟨F, g, S⟩ := S
  exact ⟨.ref a, St.join (S.sl i _ h).1, q _ H δ _ k ⟨F, g, S, rfl⟩⟩
theorem atI_nis {B : Bs} {F H : Hp} {xs : List V} {n : NI} {i : Int} (h : NisAt B F H xs ns) (e : atI ns i = some n) : ∃ v, atI xs i = some v ∧ NiAt B F H v n := by
  unfold atI at e ⊢
  rw [h.len]
  cases z : ixN ns.length i with
  | none => rw [z] at e; cases e
  | some j =>
    rw [z] at e
    obtain ⟨v, e1, e2⟩ := h.get (show ns[j]? = some n from e)
    exact ⟨v, e1, e2⟩
/-- found[i], a list in it -/
theorem uix_nO (j : Nat) {i : Int} (h : δ[j]? = some (.nst a ns)) (e : atI ns i = some (.o b ts)) (k : Post δ (.ptr b)) : OP2 c (uIx c.B) δ (.ptr a) (.d (.int i)) Post := o2_l fun σ H ρ x y Q S q => by
  obtain ⟨F, g, S2, h1, h2⟩ := S.top2
  obtain ⟨_, N⟩ := S2.sl j _ h
  obtain ⟨xs, hx, hs⟩ := N.ls
  obtain ⟨v, e1, rfl, _⟩ := atI_nis hs e
  exact .inl ⟨a, xs, i, .ref b, h1, DV.int_ (B := c.B) (F := F) h2, SqL.of hx, e1, q _ _ δ _ k ⟨F, g, S2, rfl⟩⟩
theorem NstAt.setO {F : Hp} {g : Addr → Option Loc} {H : Hp} {l : Loc} {ys : List V} {us : List T} (N : NstAt c F g H l a ns) (hk : ns[k]? = some (.o b ts)) (hd : DVs c.B F ys us) : NstAt c F g (upd H b (.lst ys)) l a (ns.set k (.o b us)) := by
  obtain ⟨xs, hx, hs⟩ := N.ls
  have hb := adrs_mem hk
  have hba := (N.gi b hb).2.2
  refine ⟨⟨xs, by rw [upd_ne (Ne.symm hba)]; exact hx, hs.setO hd hk N.nd⟩, N.ga, N.h0, ?_, ?_⟩
  · rw [adrs_setO hk]; exact N.gi
  · rw [adrs_setO hk]; exact N.nd
/-- found[k].append(x) -/
theorem es_appN {ta te : TE} (h : EV c ta δ fun δ1 r => ∃ b, r = .ptr b ∧ (∃ ts, InNst δ1 b ts) ∧ EV c te δ1 fun δ2 r2 => ∃ t, Pu r2 (.d t) ∧ ∃ (j k : Nat) (a : Addr) (ns : List NI) (ts : List T), δ2[j]? = some (.nst a ns) ∧ ns[k]? = some (.o b ts) ∧ ts.length < sizeLine ∧ R.nx (δ2.set j (.nst a (ns.set k (.o b (ts ++ [t])))))) :
    ES c (tDrop (tBM c.B.K "list" rAppend ta (tCons te tNil))) δ R := fun σ H ρ D S M =>
  h σ H ρ _ S fun v H1 δ1 r ⟨b, e, ⟨ts0, w⟩, k⟩ S1 => by
    subst e
    obtain ⟨F1, g1, S1, e⟩ := S1
    have e : v = .ref b := e
    subst e
    obtain ⟨xs0, hx0, _⟩ := S1.inNst w
    refine ⟨.inl ⟨rfl, xs0, SqL.of hx0⟩, k σ H1 (ρ ++ [(.ref b, .ptr b)]) _ (St1.pushP (a := b) ⟨F1, g1, S1, rfl⟩) fun y H2 δ2 r2 ⟨t, p, j, kk, a, ns, ts, hj, hk, hz, k2⟩ S2 => ?_⟩
    obtain ⟨F, g, S3⟩ := S2.put p
    have hy : DV c.B F y t := S3.last
    have S4 := S3.drop.drop
    obtain ⟨_, N⟩ := S4.sl j _ hj
    obtain ⟨xs, hx, hd⟩ := S4.inNst ⟨j, a, ns, kk, hj, hk⟩
    exact ⟨b, xs, y, rfl, rfl, hx, by rw [hd.length]; exact hz, M.nx _ _ _ k2 ⟨F, g, S4.updN hj (.inr (adrs_mem hk)) (N.setO hk (hd.snoc hy))⟩⟩
/-- found[i] = x -/
theorem o3_nD (j : Nat) {i : Int} {P : List SV → Prop} (hj : δ[j]? = some (.nst a ns)) (hn : ixN ns.length i = some n) (kk : P (δ.set j (.nst a (ns.set n (.d t))))) : OP3 c (uSet c.B) δ (.ptr a) (.d (.int i)) (.d t) P := fun σ H ρ o iv v Q S q => by
  obtain ⟨F, g, S4, hv, ho, hi⟩ := S.top3
  have ho : o = .ref a := ho
  have hv : DV c.B F v t := hv
  obtain ⟨_, N⟩ := S4.sl j _ hj
  obtain ⟨xs, hx, hs⟩ := N.ls
  have ha : a ∉ adrs ns := fun h => (N.gi a h).2.2 rfl
  have hsub := adrs_setD ns n t
  refine .inl ⟨a, xs, i, n, ho, DV.int_ (B := c.B) (F := F) hi, hx, by rw [hs.len]; exact hn, q _ _ kk ⟨F, g, S4.updN (u := .lst (xs.set n v)) hj (.inl rfl) ⟨⟨_, upd_same, (hs.other ha).setD hv n⟩, N.ga, N.h0, fun x hx => N.gi x (hsub.subset hx), N.nd.sublist hsub⟩⟩⟩
theorem inNst_dp {B : Bs} {F H : Hp} {a : Addr} {ts : List T} {d : List PyData} (fh : Ex F H) (h : ∃ xs, H a = some (.lst xs) ∧ DVs B F xs ts) (hd : T.pys ts = some d) : Dp B.K H (.ref a) (.list d) := by
  obtain ⟨xs, h1, h2⟩ := h
  exact .lst (SqL.of h1) (DpAll.mono fh _ _ (DVs.dp _ _ _ h2 hd))
/-- found[k] == data, != data -/
theorem o2_eqN {ds : List PyData} {u : T} {e : PyData} (ow : InNst δ a ts) (h1 : T.pys ts = some ds) (h2 : u.py = some e) (s1 : SeqAt.shaped (.list ds) = true) (s2 : SeqAt.shaped e = true) {b : Bool} (hb : PyData.eqv (.list ds) e = b) (k : Post δ (.d (.bl b))) : OP2 c (rEqD c.B.K) δ (.ptr a) (.d u) Post := fun σ H ρ x y Q S q => by
  obtain ⟨F, g, S2, hx, hy⟩ := S.top2
  have hx : x = .ref a := hx
  subst hx
  have hy : DV c.B F y u := hy
  refine ⟨.list ds, e, inNst_dp S2.fh (S2.inNst ow) h1, Dp.mono S2.fh _ _ (DV.dp _ _ _ hy h2), s1, s2, ?_⟩
  rw [hb]
  exact q _ H δ _ k (St.flat ⟨F, g, S2⟩ (t := .bl b) rfl)
theorem o2_neN {ds : List PyData} {u : T} {e : PyData} (ow : InNst δ a ts) (h1 : T.pys ts = some ds) (h2 : u.py = some e) (s1 : SeqAt.shaped (.list ds) = true) (s2 : SeqAt.shaped e = true) {b : Bool} (hb : PyData.eqv (.list ds) e = b) (k : Post δ (.d (.bl (!b)))) : OP2 c (rNeD c.B.K) δ (.ptr a) (.d u) Post := fun σ H ρ x y Q S q => by
  obtain ⟨F, g, S2, hx, hy⟩ := S.top2
  have hx : x = .ref a := hx
  subst hx
  have hy : DV c.B F y u := hy
  refine ⟨.list ds, e, inNst_dp S2.fh (S2.inNst ow) h1, Dp.mono S2.fh _ _ (DV.dp _ _ _ hy h2), s1, s2, ?_⟩
  rw [hb]
  exact q _ H δ _ k (St.flat ⟨F, g, S2⟩ (t := .bl (!b)) rfl)
end
end DL

namespace DL
open PySem PySem.Spec PyProof.Rows L2
section
variable {c : Cn} {δ : List SV} {Post : List SV → SV → Prop} {tl te : TE} {ta : TA} {g : TG} {tt : TT} {ti : TI} {vs : List Nat}
/-- a walk along a list that stands in an owned one -/
theorem ei_N {P : List SV → (List SV → Prop) → List T → Prop} (h : EV c tl δ fun δ1 r => ∃ a ts, r = .ptr a ∧ InNst δ1 a ts ∧ P δ1 (fun δ => InNst δ a ts) ts) : EVI c (iList c.B.K tl) δ P := fun σ H ρ R S q =>
  h σ H ρ _ S fun v H1 δ1 r ⟨a, ts, e, ow, k⟩ S1 => by
    subst e
    obtain ⟨F, gg, S2, e⟩ := S1
    have e : v = .ref a := e
    subst e
    obtain ⟨xs, hx, hxs⟩ := S2.inNst ow
    have key : ∀ {σ : L2.St} {H : Hp} {δ : List SV} {ρ' : List (V × SV)}, InNst δ a ts → St c σ H δ ρ' → ∃ xs F, SqL c.B.K H a xs ∧ DVs c.B F xs ts ∧ ∃ gg, StF c F gg σ H δ ρ' := fun o ⟨F, gg, S⟩ => by
      obtain ⟨xs, hx, hxs⟩ := S.inNst o
      exact ⟨xs, F, SqL.of hx, hxs, gg, S⟩
    refine ⟨a, rfl, ⟨xs, SqL.of hx⟩, q (Itl c.B.K a) H1 δ1 (.ref a, .ptr a) _ _ k ⟨?_, ?_, ?_⟩ ⟨F, gg, S2.push (p := (V.ref a, SV.ptr a)) rfl⟩⟩
    · intro i σ H δ ρ' hi o S
      obtain ⟨xs, F, h1, h2, _⟩ := key o S
      rw [← h2.length] at hi
      exact ⟨xs, xs[i], h1, by simp [hi]⟩
    · rintro i σ H H' δ ρ' y hi o S ⟨rfl, hh⟩
      obtain ⟨xs, F, h1, h2, gg, S2⟩ := key o S
      obtain ⟨t, ht, hxt⟩ := h2.get' (hh xs h1)
      exact ⟨t, ht, F, gg, S2, hxt⟩
    · intro σ H δ ρ' o S
      obtain ⟨xs, F, h1, h2, _⟩ := key o S
      exact ⟨xs, h1, by rw [h2.length]; exact Nat.le_refl _⟩
/-! ### a comprehension whose items are new lists, owned -/
def ownNs (bs : List Addr) (tss : List (List T)) : List NI := List.zipWith NI.o bs tss
theorem StF.updTN {F : Hp} {gg : Addr → Option Loc} {σ : L2.St} {H : Hp} {ρ : List (V × SV)} {a : Addr} {ns ns' : List NI} {u : HO} (S : StF c F gg σ H δ (ρ ++ [(.ref a, .nst a ns)])) (hn : NstAt c F gg (upd H a u) (.tmp ρ.length) a ns') : StF c F gg σ (upd H a u) δ (ρ ++ [(.ref a, .nst a ns')]) := by
  obtain ⟨_, N⟩ := S.last
  have S1 : StF c F gg σ (upd H a u) δ ρ := S.drop.updB (l := .tmp ρ.length) N.ga N.h0 (fun _ _ _ z => by cases z) (fun n p e z => by
    injection z with z
    have := (List.getElem?_eq_some_iff.mp e).1
    omega)
  exact S1.push (p := (V.ref a, SV.nst a ns')) ⟨rfl, hn⟩
theorem lcN_turn {σ : L2.St} {ρ : List (V × SV)} {J : List (List T) → List SV → Prop} {Dl : Addr} {t : T} {x : V} {F : Hp} {gg : Addr → Option Loc} {H : Hp} {δ : List SV} {bs : List Addr} {acc : List (List T)} (hb : bs.length = acc.length)
    (hz : acc.length < sizeLine)
    (hs : GT c g (· ∈ vs) (.d t) (wd δ vs) fun δ2 => EVT c tt δ2 fun δ3 b => b = true ∧ EV c te δ3 fun δ4 r => ∃ p us, r = .own p (.lst us) ∧ J (acc ++ [us]) (wd δ4 vs))
    (S : StF c F gg σ H δ (ρ ++ [(.ref Dl, .nst Dl (ownNs bs acc))])) (hx : DV c.B F x t) (Nx : Hp → Prop) (hN : ∀ H' bs' acc' δ', bs'.length = acc'.length → J acc' δ' → St c σ H' δ' (ρ ++ [(.ref Dl, .nst Dl (ownNs bs' acc'))]) → Nx H') :
    g x (wipe σ vs) H fun σ2 H2 => wipe σ2 vs = wipe σ vs ∧ tt σ2 H2 fun b H3 => if b = true then te σ2 H3 fun y H4 => ∃ ac, H4 Dl = some (.lst ac) ∧ ac.length < sizeLine ∧ Nx (upd H4 Dl (.lst (ac ++ [y]))) else Nx H3 := by
  have S1 := S.wipe vs
  refine hs x (wipe σ vs) H _ _ ⟨F, gg, S1, hx⟩ fun σ2 H2 δ2 k2 S2 o => ?_
  have e2 : wipe σ2 vs = wipe σ vs := (wipe_only o).trans (wipe_wipe σ vs)
  refine ⟨e2, k2 σ2 H2 _ _ S2 fun b H3 δ3 ⟨eb, k3⟩ S3 => ?_⟩
  subst eb
  rw [if_pos rfl]
  refine k3 σ2 H3 _ _ S3 fun y H4 δ4 r ⟨p, us, er, k4⟩ S4 => ?_
  subst er
  obtain ⟨F5, g5, S5, top⟩ := S4
  obtain ⟨rfl, hg, h0, ys, hys, hd⟩ := top
  have S6 := S5.retag (l := .tmp ρ.length) hg
  obtain ⟨_, N⟩ := S6.last
  obtain ⟨ac, hac, hs⟩ := N.ls
  have hlen : (ownNs bs acc).length = acc.length := by unfold ownNs; rw [List.length_zipWith]; omega
  have hpD : p ≠ Dl := fun e => by
    obtain ⟨_, N5⟩ := S5.last
    have := N5.ga
    rw [← e, hg] at this; cases this
  have hpn : p ∉ adrs (ownNs bs acc) := fun e => by
    obtain ⟨_, N5⟩ := S5.last
    have := (N5.gi p e).1
    rw [hg] at this; cases this
  have hDn : Dl ∉ adrs (ownNs bs acc) := fun e => (N.gi Dl e).2.2 rfl
  refine ⟨ac, hac, by rw [hs.len, hlen]; exact hz, hN _ (bs ++ [p]) (acc ++ [us]) _ (by simp [hb]) k4 ⟨F5, (fun b => if b = p then some (Loc.tmp ρ.length) else g5 b), ?_⟩⟩
  have en : ownNs (bs ++ [p]) (acc ++ [us]) = ownNs bs acc ++ [.o p us] := by unfold ownNs; rw [List.zipWith_append hb]; rfl
  have ea : adrs (ownNs (bs ++ [p]) (acc ++ [us])) = adrs (ownNs bs acc) ++ [p] := by rw [en, adrs_app]; rfl
  refine (S6.updTN (ns' := ownNs (bs ++ [p]) (acc ++ [us])) (u := .lst (ac ++ [.ref p])) ⟨⟨_, upd_same, ?_⟩, N.ga, N.h0, ?_, ?_⟩).unwipe e2
  · rw [en]
    exact NisAt.snoc (n := .o p us) ⟨rfl, ys, by rw [upd_ne hpD]; exact hys, hd⟩ (hs.other hDn)
  · rw [ea]
    intro x hx
    rcases List.mem_append.mp hx with hx | hx
    · exact N.gi x hx
    · rw [List.mem_singleton] at hx; subst hx
      exact ⟨if_pos rfl, h0, hpD⟩
  · rw [ea]
    exact List.nodup_append.mpr ⟨N.nd, by simp, fun x hx y hy e => by rw [List.mem_singleton] at hy; subst hy; exact hpn (e ▸ hx)⟩
theorem lcN_end {σ : L2.St} {H : Hp} {ρ : List (V × SV)} {Dl : Addr} {δ : List SV} {ns : List NI} (S : St c σ H δ (ρ ++ [(.ref Dl, .nst Dl ns)])) : St1 c σ H δ ρ (.ref Dl) (.nst Dl ns) := by
  classical
  obtain ⟨F, g, S⟩ := S
  obtain ⟨_, N⟩ := S.last
  have S0 := S.drop
  have hin : ∀ b, b = Dl ∨ b ∈ adrs ns → g b = some (.tmp ρ.length) := fun b hb => (N.own hb).1
  have hk : ∀ (b : Addr) (l : Loc), l ≠ .tmp ρ.length → g b = some l → (if b = Dl ∨ b ∈ adrs ns then some Loc.top else g b) = some l := fun b l hl hb => by
    rw [if_neg fun z => hl (by rw [hin b z] at hb; injection hb with hb; exact hb.symm)]; exact hb
  refine ⟨F, fun b => if b = Dl ∨ b ∈ adrs ns then some .top else g b, ⟨S0.fh, S0.f0, S0.fn, S0.h0, S0.len, fun i s e => (S0.sl i s e).mono (Ex.refl F) (fun b hb => hk b _ (by intro z; cases z) hb) (fun _ _ => rfl), fun n q e => (S0.tm n q e).mono (Ex.refl F) (fun b hb => hk b _ (fun z => by
      injection z with z
      have := (List.getElem?_eq_some_iff.mp e).1
      omega) hb) (fun _ _ => rfl), fun a l' e => ?_, S0.an, S0.tbIfs fun b q => ⟨_, hin b q⟩⟩, rfl, N.ls, if_pos (.inl rfl), N.h0, fun b hb => ⟨if_pos (.inr hb), (N.gi b hb).2⟩, N.nd⟩
  by_cases q : a = Dl ∨ a ∈ adrs ns
  · exact S0.gn a _ (hin a q)
  · rw [if_neg q] at e; exact S0.gn a l' e
theorem lcN_start {σ : L2.St} {H : Hp} {ρ : List (V × SV)} {F : Hp} {gg : Addr → Option Loc} {Dl : Addr} {δ : List SV} (S : StF c F gg σ H δ ρ) (hD : H Dl = none) : ∃ g', StF c F g' σ (upd H Dl (.lst [])) (wd δ vs) (ρ ++ [(.ref Dl, .nst Dl [])]) := by
  obtain ⟨g', S1, h1, h2, h3⟩ := S.newOwn (u := .lst []) hD
  have S2 := (S1.retag (l := .tmp ρ.length) h1).push (p := (V.ref Dl, SV.nst Dl [])) ⟨rfl, ⟨[], upd_same, True.intro⟩, if_pos rfl, h3, fun b hb => (by cases hb), List.nodup_nil⟩
  exact ⟨_, S2.unwipe rfl⟩
/-- [.. for .. in ..], its items new lists, that are owned with it -/
theorem ev_lcN (h : EVI c ti δ fun δ1 O ts => ts.length ≤ sizeLine ∧ ∃ I : Nat → List (List T) → List SV → Prop, I 0 [] (wd δ1 vs) ∧ (∀ i acc δ, I i acc δ → O δ) ∧
    (∀ i t acc δ, ts[i]? = some t → acc.length ≤ i → I i acc δ → GT c g (· ∈ vs) (.d t) (wd δ vs) fun δ2 => EVT c tt δ2 fun δ3 b => b = true ∧ EV c te δ3 fun δ4 r => ∃ p us, r = .own p (.lst us) ∧ I (i + 1) (acc ++ [us]) (wd δ4 vs)) ∧
    ∀ acc δ, acc.length ≤ ts.length → I ts.length acc δ → ∀ p bs, bs.length = acc.length → Post δ (.nst p (ownNs bs acc))) : EV c (tLc ti g tt te vs) δ Post := fun σ H ρ Q S q =>
  h σ H ρ _ S fun J H1 δ1 p O ts ⟨hz, I, h0, hO, hs, hd⟩ DI S1 => fun Dl hD => by
    obtain ⟨F1, g1, S4⟩ := S1
    obtain ⟨g2, S5⟩ := lcN_start (vs := vs) S4 hD
    refine ⟨fun i m H => m = ts.length - i ∧ i ≤ ts.length ∧ ∃ (bs : List Addr) (acc : List (List T)) (δ : List SV), bs.length = acc.length ∧ acc.length ≤ i ∧ I i acc δ ∧ St c σ H δ ((ρ ++ [p]) ++ [(.ref Dl, .nst Dl (ownNs bs acc))]), ⟨ts.length, by simp, Nat.zero_le _, [], [], _, rfl, Nat.le_refl _, h0, F1, g2, S5⟩, ?_⟩
    rintro i m H2 ⟨rfl, hi, bs, acc, δ2, hb, hlen, k, S6⟩
    by_cases hlt : i < ts.length
    · refine .inr ⟨DI.go hlt (hO _ _ _ k) S6, fun H' => ∃ (bs : List Addr) (acc : List (List T)) (δ : List SV), bs.length = acc.length ∧ acc.length ≤ i + 1 ∧ I (i + 1) acc δ ∧ St c σ H' δ ((ρ ++ [p]) ++ [(.ref Dl, .nst Dl (ownNs bs acc))]), fun H' p' => ⟨ts.length - (i + 1), by omega, rfl, hlt, p'⟩, fun x H' y => ?_⟩
      obtain ⟨t, ht, F3, g3, S7, hx⟩ := DI.yld hlt (hO _ _ _ k) S6 y
      have hx : DV c.B F3 x t := hx
      refine lcN_turn (J := fun acc δ => acc.length ≤ i + 1 ∧ I (i + 1) acc δ) hb (by omega) ?_ S7 hx _ fun H' bs' acc' δ' hb' k S => ⟨bs', acc', δ', hb', k.1, k.2, S⟩
      refine fun v σ H ρ Q S q => hs i t acc δ2 ht hlen k v σ H ρ Q S fun σ' H' δ' k' S' o => q σ' H' δ' (fun σ H ρ Q S q => k' σ H ρ Q S fun b H' δ' k' S' => q b H' δ' ?_ S') S' o
      exact ⟨k'.1, fun σ H ρ Q S q => k'.2 σ H ρ Q S fun v H' δ' r ⟨p, us, er, kk⟩ S' => q v H' δ' r ⟨p, us, er, by rw [List.length_append, List.length_singleton]; omega, kk⟩ S'⟩
    · have e : i = ts.length := by omega
      subst e
      have S7 := lcN_end S6
      obtain ⟨F, g, S7, t7⟩ := S7
      exact .inl ⟨DI.stop (hO _ _ _ k) S6, q _ H2 δ2 _ (hd acc δ2 hlen k Dl bs hb) ⟨F, g, S7.drop, t7⟩⟩
/-! ### the lists within are data from now on -/
theorem St.thick {σ : L2.St} {H : Hp} {ρ : List (V × SV)} {j : Nat} {a : Addr} {ns : List NI} (S : St c σ H δ ρ) (h : δ[j]? = some (.nst a ns)) : St c σ H (δ.set j (.own a (.lst (ns.map NI.tr)))) ρ := by
  classical
  obtain ⟨F, g, S⟩ := S
  obtain ⟨e1, N⟩ := S.sl j _ h
  obtain ⟨xs, hx, hs⟩ := N.ls
  have hin : ∀ b ∈ adrs ns, g b = some (.slot j) ∧ c.H0 b = none ∧ b ≠ a ∧ F b = none ∧ ∃ o, H b = some o := fun b hb => by
    obtain ⟨h1, h2, h3⟩ := N.gi b hb
    obtain ⟨h4, h5⟩ := S.gn b _ h1
    exact ⟨h1, h2, h3, h4, h5⟩
  let F1 : Hp := fun b => if b ∈ adrs ns then H b else F b
  have f1a : ∀ b, b ∈ adrs ns → F1 b = H b := fun b hb => if_pos hb
  have f1b : ∀ b, b ∉ adrs ns → F1 b = F b := fun b hb => if_neg hb
  have e : Ex F F1 := fun b o ho => by
    have : b ∉ adrs ns := fun z => by rw [(hin b z).2.2.2.1] at ho; cases ho
    rw [f1b b this]; exact ho
  have eh : Ex F1 H := fun b o ho => by
    by_cases z : b ∈ adrs ns
    · rw [f1a b z] at ho; exact ho
    · rw [f1b b z] at ho; exact S.fh b o ho
  let g1 : Addr → Option Loc := fun b => if b ∈ adrs ns then none else g b
  have hk : ∀ (b : Addr) (l : Loc), l ≠ .slot j → g b = some l → g1 b = some l := fun b l hl hb => by
    show (if b ∈ adrs ns then none else g b) = some l
    rw [if_neg fun z => hl (by rw [(hin b z).1] at hb; injection hb with hb; exact hb.symm)]; exact hb
  have ha : a ∉ adrs ns := fun z => (hin a z).2.2.1 rfl
  have items : ∀ {vs : List V} {ms : List NI}, (∀ b ∈ adrs ms, b ∈ adrs ns) → NisAt c.B F H vs ms → DVs c.B F1 vs (ms.map NI.tr) := by
    intro vs ms
    induction ms generalizing vs with
    | nil => intro _ q; cases vs with
      | nil => exact .nil
      | cons _ _ => exact q.elim
    | cons m ms ih =>
      intro hm q
      cases vs with
      | nil => exact q.elim
      | cons v vs =>
        rw [adrs_cons] at hm
        refine .cons ?_ (ih (fun b hb => hm b (List.mem_append_right _ hb)) q.2)
        cases m with
        | o b ts =>
          obtain ⟨rfl, ys, h1, h2⟩ := q.1
          exact DV.lst_ (by rw [f1a b (hm b (by simp [NI.adr]))]; exact h1) (DVs.mono e _ _ h2)
        | d t => exact DV.mono e t v q.1
        | pr p b1 t1 b2 t2 =>
          obtain ⟨rfl, h0, ⟨xs, h1, h2⟩, ys, h3, h4⟩ := q.1
          exact DV.tup_ (SqT.of (e _ _ h0)) (.cons (DV.lst_ (by rw [f1a b1 (hm b1 (by simp [NI.adr]))]; exact h1) (DVs.mono e _ _ h2)) (.cons (DV.lst_ (by rw [f1a b2 (hm b2 (by simp [NI.adr]))]; exact h3) (DVs.mono e _ _ h4)) .nil))
  refine ⟨F1, g1, eh, S.f0.trans e, fun b o hb => ?_, S.h0, by rw [List.length_set]; exact S.len, fun i s es => ?_, fun n p hp => (S.tm n p hp).mono e (fun b hb => hk b _ (by intro z; cases z) hb) (fun _ _ => rfl), fun b l hb => ?_, fun b hb => ?_, fun t ht => by
    obtain ⟨t1, t2, t3⟩ := S.tb t ht
    have n : t ∉ adrs ns := fun z => by
      rw [(hin t z).1] at t3; cases t3
    exact ⟨t1.mono e rfl, by rw [f1b t n]; exact t2, (if_neg n).trans t3⟩⟩
  · have : b ∉ adrs ns := fun z => by rw [(hin b z).2.1] at hb; cases hb
    rw [f1b b this]; exact S.fn b o hb
  · by_cases z : i = j
    · subst z
      rw [List.getElem?_set_self (List.getElem?_eq_some_iff.mp h).1] at es
      cases es
      exact ⟨e1, by show (if a ∈ adrs ns then none else g a) = _; rw [if_neg ha]; exact N.ga, N.h0, xs, hx, items (fun _ h => h) hs⟩
    · rw [List.getElem?_set_ne (Ne.symm z)] at es
      exact (S.sl i s es).mono e (fun b hb => hk b _ (fun y => z (by injection y)) hb) (fun _ _ => rfl)
  · have hb : (if b ∈ adrs ns then none else g b) = some l := hb
    by_cases z : b ∈ adrs ns
    · rw [if_pos z] at hb; cases hb
    · rw [if_neg z] at hb
      obtain ⟨x1, x2⟩ := S.gn b l hb
      exact ⟨by rw [f1b b z]; exact x1, x2⟩
  · obtain ⟨x1, x2, x3⟩ := S.an b hb
    have : b ∉ adrs ns := fun z => by
      obtain ⟨o, ho⟩ := x3
      rw [(hin b z).2.1] at ho; cases ho
    exact ⟨by rw [f1b b this]; exact x1, x2, x3⟩
theorem es_thick {t : TS} {R : DEnds} {j : Nat} {a : Addr} {ns : List NI} (h : δ[j]? = some (.nst a ns)) (k : ES c t (δ.set j (.own a (.lst (ns.map NI.tr)))) R) : ES c t δ R := fun σ H ρ D S M => k σ H ρ D (S.thick h) M
theorem ownNs_tr : ∀ {bs : List Addr} {tss : List (List T)}, bs.length = tss.length → (ownNs bs tss).map NI.tr = tss.map T.lst
  | [], [], _ => rfl
  | [], _ :: _, h => by cases h
  | _ :: _, [], h => by cases h
  | b :: bs, ts :: tss, h => by
    show NI.tr (.o b ts) :: (ownNs bs tss).map NI.tr = _
    rw [ownNs_tr (by simpa using h)]; rfl
theorem ownNs_get {bs : List Addr} {tss : List (List T)} (h : bs.length = tss.length) {k : Nat} (hk : k < tss.length) : (ownNs bs tss)[k]? = some (.o (bs[k]'(by omega)) tss[k]) := by
  unfold ownNs
  rw [List.getElem?_zipWith, List.getElem?_eq_getElem (by omega), List.getElem?_eq_getElem hk]
theorem ownNs_len {bs : List Addr} {tss : List (List T)} (h : bs.length = tss.length) : (ownNs bs tss).length = tss.length := by unfold ownNs; rw [List.length_zipWith]; omega
end
end DL

namespace DL
open PySem PySem.Spec PyProof.Rows L2
/-! ### walks along a list that is owned with the lists in it -/
def NI.it : NI → T
  | .o b _ => .raw (.ref b)
  | .d t => t
  | .pr _ b1 _ b2 _ => .tup [.raw (.ref b1), .raw (.ref b2)]
theorem NisAt.its {B : Bs} {F H : Hp} : ∀ {vs : List V} {ns : List NI}, NisAt B F H vs ns → DVs B F vs (ns.map NI.it)
  | [], [], _ => .nil
  | [], _ :: _, q => q.elim
  | _ :: _, [], q => q.elim
  | v :: vs, n :: ns, q => by
    refine .cons ?_ q.2.its
    cases n with
    | o b ts => obtain ⟨rfl, _⟩ := q.1; simp only [NI.it, DV]
    | d t => exact q.1
    | pr p b1 t1 b2 t2 =>
      obtain ⟨rfl, h0, _⟩ := q.1
      exact DV.tup_ (SqT.of h0) (.cons (by simp only [DV]) (.cons (by simp only [DV]) .nil))
/-- the slots, said otherwise -/
theorem es_is {c : Cn} {t : TS} {δ δ' : List SV} {R : DEnds} (e : δ = δ') (k : ES c t δ' R) : ES c t δ R := e ▸ k
end DL

namespace DL
open PySem PySem.Spec PyProof.Rows L2
end DL

namespace DL
open PySem PySem.Spec PyProof.Rows L2

/-! ### l.pop(i) of an owned list, l.index(x) of texts, ranges with two ends -/
theorem DVs.erase {B : Bs} {F : Hp} : ∀ {ts : List T} {vs : List V} (n : Nat), DVs B F vs ts → DVs B F (vs.eraseIdx n) (ts.eraseIdx n)
  | [], _, n, h => by simp only [DVs] at h; subst h; exact .nil
  | t :: ts, _, 0, h => by
    simp only [DVs] at h
    obtain ⟨v, r, rfl, h1, h2⟩ := h
    exact h2
  | t :: ts, _, n + 1, h => by
    simp only [DVs] at h
    obtain ⟨v, r, rfl, h1, h2⟩ := h
    exact .cons h1 (DVs.erase n h2)
/-! ### x in l, x not in l, of data of any depth -/
theorem op_notInDB {X : Cx} (B : Bs) (h : Bx X = B) (hu : X.A.units + 66 < cLine) : OpR X (compareOp .NotIn) (rNotInD B.K) := by subst h; exact op_notInD (Nat.lt_of_succ_lt hu)
section
variable {c : Cn} {δ : List SV} {Post : List SV → SV → Prop} {ta te : TE}
theorem o2_niL {s : SV} {t : T} {d : PyData} {ts : List T} {ds : List PyData} (l : LstV δ s ts) (h1 : t.py = some d) (h2 : T.pys ts = some ds) (s1 : SeqAt.shaped d = true) (s2 : SeqAt.shaped (.list ds) = true) {b : Bool} (hb : (ds.any fun z => PyData.eqv z d) = b) (k : Post δ (.d (.bl (!b)))) : OP2 c (rNotInD c.B.K) δ (.d t) s Post := fun σ H ρ x y Q S q => by
  obtain ⟨F, g, S2, q1, q2⟩ := S.top2
  obtain ⟨a, xs, rfl, hx, hd⟩ := l.at S2 q2
  exact ⟨d, ds, Dp.mono S2.fh d x (DV.dp t x d q1 h1), Dp.lst (SqL.of hx) (DpAll.mono S2.fh _ _ (DVs.dp _ _ _ hd h2)), s1, s2, by rw [hb]; exact q _ _ δ _ k (St.flat ⟨F, g, S2⟩ (t := .bl (!b)) rfl)⟩
theorem LstV.strs {δ : List SV} {s : SV} {xs : List Str} {F : Hp} {g : Addr → Option Loc} {σ : L2.St} {H : Hp} {ρ : List (V × SV)} {v : V} {n : Nat} (l : LstV δ s (xs.map .str)) (S : StF c F g σ H δ ρ) (t : TempOk c F g H n (v, s)) : ∃ a, v = .ref a ∧ H a = some (.lst (xs.map .str)) := by
  obtain ⟨a, ys, rfl, hx, dv⟩ := l.at S t
  refine ⟨a, rfl, ?_⟩
  rw [hx]
  have : ∀ (xs : List Str) (ys : List V), DVs c.B F ys (xs.map .str) → ys = xs.map .str := by
    intro xs
    induction xs with
    | nil => intro ys h; simp only [List.map, DVs] at h; exact h
    | cons x xs ih =>
      intro ys h
      simp only [List.map, DVs] at h
      obtain ⟨v, r, rfl, h1, h2⟩ := h
      rw [ih r h2, h1.str_]; rfl
  rw [this xs ys dv]
end
end DL

namespace DL
open PySem PySem.Spec PyProof.Rows L2
/-! ### loops in a try -/
section
variable {c : Cn} {δ : List SV} {R : DEnds} {ti : TI} {g : TG} {tb : TS}
theorem MeetsX.more {ρ ρ' : List (V × SV)} {W : WX} {RX : List SV → Addr → T → Prop} (M : MeetsX c ρ W RX) : MeetsX c (ρ ++ ρ') W RX := fun C t d σ H δ F g hx S x => M C t d σ H δ F g hx S.drop x
end
end DL

namespace DL
open PySem PySem.Spec PyProof.Rows L2
/-! ### == and != of an instance of an own class and something else, either way about -/
/-- what is asked of a builtin kind that meets an own class -/
structure OthK (K : PySem.W.Frag) (C : Addr) (Ta : String) : Prop where
  cv : PySem.W.subIn K (.ref C) (.type Ta) = some false
  vc : PySem.W.subIn K (.type Ta) (.ref C) = some false
  vv : PySem.W.subIn K (.type Ta) (.type Ta) = some true
/-! kinds of values -/
inductive OthV (K : PySem.W.Frag) (H : Hp) : V → String → Prop
  | non : OthV K H .non "NoneType"
  | int (i : Int) : OthV K H (.int i) "int"
  | str (x : Str) : OthV K H (.str x) "str"
  | lst {a : Addr} {xs : List V} : H a = some (.lst xs) → OthV K H (.ref a) "list"
  | tup {a : Addr} {xs : List V} : SqT K H a xs → OthV K H (.ref a) "tuple"
theorem OthV.ty {K : PySem.W.Frag} {H : Hp} {v : V} {Ta : String} (h : OthV K H v Ta) : TyX K H v (.type Ta) := by
  cases h with
  | non => exact .base .non
  | int i => exact .base (.int i)
  | str x => exact .base (.str x)
  | lst h => exact .base (.lst h)
  | tup h =>
    rcases h with h | ⟨o, its, n, h1, h2, _⟩
    · rcases h with h | ⟨o, h⟩
      · exact .base (.tup h)
      · exact .fTuple h
    · exact .kTuple h1 h2
end DL

namespace DL
open PySem PySem.Spec PyProof.Rows L2
/-! ### an instance and data of a builtin kind -/
inductive OthT : T → String → Prop
  | non : OthT .non "NoneType"
  | int (i : Int) : OthT (.int i) "int"
  | str (x : Str) : OthT (.str x) "str"
  | lst (ts : List T) : OthT (.lst ts) "list"
  | tup (ts : List T) : OthT (.tup ts) "tuple"
theorem OthT.at {t : T} {Ta : String} (h : OthT t Ta) {B : Bs} {F H : Hp} {v : V} (e : Ex F H) (hv : DV B F v t) : OthV B.K H v Ta := by
  cases h with
  | non => simp only [DV] at hv; subst hv; exact .non
  | int i => simp only [DV] at hv; subst hv; exact .int i
  | str i => simp only [DV] at hv; subst hv; exact .str i
  | lst ts => simp only [DV] at hv; obtain ⟨a, xs, rfl, h, _⟩ := hv; exact .lst (e _ _ h)
  | tup ts => simp only [DV] at hv; obtain ⟨a, xs, rfl, h, _⟩ := hv; exact .tup (e.sqt h)
end DL

namespace DL
open PySem L2
/-! ### a list that is owned with its lists, on its way into a name -/
section
variable {c : Cn} {δ : List SV} {Post : List SV → SV → Prop} {te : TE} {tr : TA} {F : Hp} {g : Addr → Option Loc} {σ : L2.St} {H : Hp} {ρ : List (V × SV)} {v : V} {a : Addr} {ns : List NI}
theorem StF.keepN (S : StF c F g σ H δ ρ) (h : TopOk c F g H v (.nst a ns)) : St c σ H δ (ρ ++ [(v, .nst a ns)]) := by
  classical
  obtain ⟨e, N⟩ := h
  have hin : ∀ b, b = a ∨ b ∈ adrs ns → g b = some .top := fun b hb => (N.own hb).1
  have hk : ∀ (b : Addr) (l : Loc), l ≠ .top → g b = some l → (if b = a ∨ b ∈ adrs ns then some (Loc.tmp ρ.length) else g b) = some l := fun b l hl hb => by
    rw [if_neg fun z => hl (by rw [hin b z] at hb; injection hb with hb; exact hb.symm)]; exact hb
  have S1 : StF c F (fun b => if b = a ∨ b ∈ adrs ns then some (Loc.tmp ρ.length) else g b) σ H δ ρ := by
    refine ⟨S.fh, S.f0, S.fn, S.h0, S.len, fun i s e => (S.sl i s e).mono (Ex.refl F) (fun b hb => hk b _ (by intro z; cases z) hb) (fun _ _ => rfl), fun n q e => (S.tm n q e).mono (Ex.refl F) (fun b hb => hk b _ (by intro z; cases z) hb) (fun _ _ => rfl), fun x l' e => ?_, S.an, S.tbIfs fun b q => ⟨_, hin b q⟩⟩
    by_cases q : x = a ∨ x ∈ adrs ns
    · exact S.gn x _ (hin x q)
    · rw [if_neg q] at e; exact S.gn x l' e
  exact ⟨F, _, S1.push (p := (v, .nst a ns)) ⟨e, N.ls, if_pos (.inl rfl), N.h0, fun b hb => ⟨if_pos (.inr hb), (N.gi b hb).2⟩, N.nd⟩⟩
theorem ea_consN {P : List SV → List SV → Prop} (h : EV c te δ fun δ1 r => ∃ a ns, r = .nst a ns ∧ EVA c tr δ1 fun δ2 rs => P δ2 (.nst a ns :: rs)) : EVA c (tCons te tr) δ P := fun σ H ρ Q S q =>
  h σ H ρ _ S fun v H' δ' r ⟨a, ns, e, k⟩ ⟨F, g, S1, ht⟩ => by
    subst e
    exact k σ H' (ρ ++ [(v, .nst a ns)]) _ (S1.keepN ht) fun vs H2 δ2 rs k2 hl S2 => q (v :: vs) H2 δ2 (.nst a ns :: rs) k2 (by simp [hl]) (by
      rw [List.zip_cons_cons]
      rw [List.append_assoc] at S2; exact S2)
theorem EVT.imp {tt : TT} {P P' : List SV → Bool → Prop} (h : EVT c tt δ P) (k : ∀ δ b, P δ b → P' δ b) : EVT c tt δ P' := fun σ H ρ Q S q => h σ H ρ Q S fun b H' δ' k' S1 => q b H' δ' (k δ' b k') S1
/-- what may be put into a name -/
inductive Pop2 : SV → Prop
  | p {s : SV} (h : Pop s) : Pop2 s
  | nst {a : Addr} {ns : List NI} : Pop2 (.nst a ns)
theorem St.pop2 {s : SV} (p : Pop2 s) (S : St c σ H δ (ρ ++ [(v, s)])) : St1 c σ H δ ρ v s := by
  cases p with
  | p h => exact S.pop h
  | @nst b ms =>
    have e : v = .ref b := by
      obtain ⟨F, g, S⟩ := S
      exact S.last.1
    subst e
    exact lcN_end S
/-- a, b, c = x, y, z -/
theorem es_par3N {i j l : Nat} {ta : TA} {R : DEnds} (hij : i ≠ j) (hil : i ≠ l) (hjl : j ≠ l) (h : EVA c ta δ fun δ1 rs => ∃ s1 s2 s3, rs = [s1, s2, s3] ∧ Pop2 s1 ∧ Pop2 s2 ∧ Pop2 s3 ∧ R.nx (((δ1.set i s1).set j s2).set l s3)) : ES c (tPar3 i j l ta) δ R := fun σ H ρ D S M =>
  h σ H ρ _ S fun vs H1 δ1 rs ⟨s1, s2, s3, e, p1, p2, p3, k⟩ hl S1 => by
    subst e
    match vs, hl, S1 with
    | [v, w, y], hl, S1 =>
      have S1 : St c σ H1 δ1 (((ρ ++ [(v, s1)]) ++ [(w, s2)]) ++ [(y, s3)]) := by rw [List.append_assoc, List.append_assoc]; exact S1
      refine ⟨v, w, y, rfl, M.nx _ _ _ k ?_⟩
      have S2 := (S1.pop2 p3).store (i := l)
      have S3 := (S2.pop2 p2).store (i := j)
      have S4 := (S3.pop2 p1).store (i := i)
      have e1 : ∀ {α : Type} (xs : List α) (a b c : α), ((xs.set l c).set j b).set i a = ((xs.set i a).set j b).set l c := fun xs a b c => by
        rw [List.set_comm _ _ (Ne.symm hjl), List.set_comm _ _ (Ne.symm hil), List.set_comm _ _ (Ne.symm hij)]
      rw [e1, e1] at S4
      exact S4
end
end DL

namespace L2
open PySem
end L2

namespace DL
open PySem L2 PySem.Spec PyProof.Rows
/-! ### set() of texts under way: x in it, it.add(x) -/
end DL

namespace DL
open PySem PySem.Spec PyProof.Rows L2
/-! ### dict comprehensions whose keys are texts or numbers, over whatever is gone through -/
end DL

namespace DL
open PySem PySem.Spec PyProof.Rows L2
/-! ### self.f = e where other fields stand already; dict(pairs) whose keys are each another -/
theorem putM_new {α β : Type} [DecidableEq α] {m : List (α × β)} {a : α} {b : β} (h : a ∉ m.map (·.1)) : putM m a b = m ++ [(a, b)] := by
  have e : getM m a = none := by
    induction m with
    | nil => rfl
    | cons p m ih =>
      obtain ⟨k, x⟩ := p
      have hk : k ≠ a := fun e => h (by rw [e]; exact List.mem_cons_self)
      show (if k = a then some x else getM m a) = none
      rw [if_neg hk]
      exact ih fun hm => h (List.mem_cons_of_mem _ hm)
  unfold putM
  rw [e]; rfl
end DL

namespace DL
open PySem PySem.Spec PyProof.Rows L2
/-! ### the keys of an owned dict of numbers gone through, and read, while it is locked -/
end DL

namespace DL
open Lean Elab Tactic Meta PySem PySem.Calls PyProof.Rows PyProof.V PySem.Spec PySem.W
/-! ### == of two dicts that are alike, their values compared by what may lay new things -/
end DL
namespace DL
open PySem PySem.Spec PyProof.Rows L2
end DL

namespace DL
open PySem PySem.Spec PyProof.Rows L2
/-! ### d == e of two dicts whose values are alike instances of an own class -/
end DL

namespace DL
open PySem PySem.Spec PyProof.Rows L2 HT
open PySem.SeqAt
open PySem.AutoSeq1 (wpAny_loadPart')
open PySem.MeetsSeq PySem.MeetsSeq2 PySem.MeetsSeq3
/-! ### t + u of tuples, either of which may be empty -/
end DL

namespace DL
open PySem PySem.Spec PyProof.Rows L2 HT
open PySem.SeqAt
open PySem.AutoSeq1 (wpAny_loadPart')
open PySem.MeetsSeq PySem.MeetsSeq2 PySem.MeetsSeq3
/-! ### t[a:b] of a tuple, the whole too -/
end DL

namespace DL
open PySem PySem.Spec PyProof.Rows L2
/-! ### a list that is owned with pairs of lists in it -/
/-! ### what is done to one of the lists -/
inductive PrSet : NI → Addr → List T → List T → NI → Prop
  | one {p b1 b2 : Addr} {t1 t2 us : List T} : PrSet (.pr p b1 t1 b2 t2) b1 t1 us (.pr p b1 us b2 t2)
  | two {p b1 b2 : Addr} {t1 t2 us : List T} : PrSet (.pr p b1 t1 b2 t2) b2 t2 us (.pr p b1 t1 b2 us)
theorem PrSet.adr {n n' : NI} {b : Addr} {ts us : List T} (h : PrSet n b ts us n') : n'.adr = n.adr := by cases h <;> rfl
theorem PrSet.mem {n n' : NI} {b : Addr} {ts us : List T} (h : PrSet n b ts us n') : b ∈ n.adr := by cases h <;> simp [NI.adr]
theorem PrSet.get {n n' : NI} {b : Addr} {ts us : List T} {B : Bs} {F H : Hp} {v : V} (h : PrSet n b ts us n') (q : NiAt B F H v n) : ∃ xs, H b = some (.lst xs) ∧ DVs B F xs ts := by
  cases h with
  | one => exact q.2.2.1
  | two => exact q.2.2.2
theorem PrSet.put {n n' : NI} {b : Addr} {ts us : List T} {B : Bs} {F H : Hp} {v : V} {ys : List V} (h : PrSet n b ts us n') (hd : DVs B F ys us) (q : NiAt B F H v n) (nd : n.adr.Nodup) : NiAt B F (upd H b (.lst ys)) v n' := by
  cases h with
  | @one p b1 b2 t1 t2 us =>
    have hne : b2 ≠ b := fun e => by simp [NI.adr] at nd; exact nd e.symm
    obtain ⟨e1, e2, _, zs, h3, h4⟩ := q
    exact ⟨e1, e2, ⟨ys, upd_same, hd⟩, zs, by rw [upd_ne hne]; exact h3, h4⟩
  | @two p b1 b2 t1 t2 us =>
    have hne : b1 ≠ b := fun e => by simp [NI.adr] at nd; exact nd e
    obtain ⟨e1, e2, ⟨zs, h3, h4⟩, _⟩ := q
    exact ⟨e1, e2, ⟨zs, by rw [upd_ne hne]; exact h3, h4⟩, ys, upd_same, hd⟩
end DL

namespace DL
open PySem PySem.Spec PyProof.Rows L2
/-! ### o[x] of an instance of a class with __getitem__ -/
structure OwnG (K : PySem.W.Frag) (C f : Addr) : Prop where
  m : OwnM K C "__getitem__" f
  fn : PySem.W.fnIn K f = true
end DL

namespace DL
open PySem PySem.Spec PyProof.Rows L2
/-! ### l.index(x), of data of any depth -/
end DL

/-! ### list(zip(a, b)) -/
namespace ZL
open PySem PySem.Spec PyProof.Rows L2 PySem.W
section
variable {prog : Program} {w : World} {A : Around} {E : Value → Shared → Prop} {s : Shared}
/-- a zip of two lists at turn i -/
structure ZSt (h : Heap) (z TI TO i1 i2 l1 l2 S : Addr) (xs ys : Array Value) (i : Nat) : Prop where
  pTI : IsPair h TI (.ref i1) (.ref i2)
  f1 : h.IsListIter i1 l1 i
  f2 : h.IsListIter i2 l2 i
  g1 : h.IsList l1 xs
  g2 : h.IsList l2 ys
  st : (∃ a b, IsZip h z TI TO .none ∧ IsPair h TO a b) ∨ ∃ T f oT, IsZipHeld h z TI TO T f ∧ h.get? T = some oT ∧ T ≠ z ∧ T ≠ i1 ∧ T ≠ i2 ∧ T ≠ TO ∧ T ≠ S
structure ZAp (z TI TO i1 i2 l1 l2 S : Nat) : Prop where
  D : ZipApart z TI TO i1 i2 l1 l2
  z : S ≠ z
  TI : S ≠ TI
  TO : S ≠ TO
  i1 : S ≠ i1
  i2 : S ≠ i2
  l1 : S ≠ l1
  l2 : S ≠ l2
theorem ZSt.keep {h h' : Heap} {z TI TO i1 i2 l1 l2 S : Addr} {xs ys : Array Value} {i : Nat} (x : ZSt h z TI TO i1 i2 l1 l2 S xs ys i) (D : ZAp z TI TO i1 i2 l1 l2 S) (hk : ∀ b o, b ≠ S → h.get? b = some o → h'.get? b = some o) : ZSt h' z TI TO i1 i2 l1 l2 S xs ys i := by
  refine ⟨hk _ _ D.TI.symm x.pTI, x.f1.at fun o e => hk _ o D.i1.symm e, x.f2.at fun o e => hk _ o D.i2.symm e, x.g1.at fun o e => hk _ o D.l1.symm e, x.g2.at fun o e => hk _ o D.l2.symm e, ?_⟩
  rcases x.st with ⟨a, b, e1, e2⟩ | ⟨T, f, oT, e1, e2, n1, n2, n3, n4, n5⟩
  · exact .inl ⟨a, b, hk _ _ D.z.symm e1, hk _ _ D.TO.symm e2⟩
  · exact .inr ⟨T, f, oT, hk _ _ D.z.symm e1, hk _ _ n5 e2, n1, n2, n3, n4, n5⟩
structure ZG (xs ys : Array Value) (lo : Addr) (h : Heap) (as : List Addr) : Prop where
  rise : as.Pairwise (· < ·)
  above : ∀ a ∈ as, lo < a
  pairs : ∀ (j : Nat) (a : Addr), as[j]? = some a → ∃ x y, xs[j]? = some x ∧ ys[j]? = some y ∧ IsPair h a x y
end
section
variable {prog : Program} {w : World} {A : Around} {E : Value → Shared → Prop} {s : Shared} {xs ys : Array Value}
theorem ZSt.type {s : Shared} {z TI TO i1 i2 l1 l2 S : Addr} {i : Nat} (x : ZSt s.heap z TI TO i1 i2 l1 l2 S xs ys i) : s.TypeIs (.ref z) "zip" := by
  rcases x.st with ⟨a, b, e1, e2⟩ | ⟨T, f, oT, e1, _⟩
  · exact ⟨_, e1, rfl⟩
  · exact ⟨_, e1, rfl⟩
theorem ZSt.iter {s : Shared} {z TI TO i1 i2 l1 l2 S : Addr} {i : Nat} {Q : Value → Shared → Prop} (x : ZSt s.heap z TI TO i1 i2 l1 l2 S xs ys i) (h : Q (.ref z) s) : wpAny (model prog w) A (pyIter (.ref z)) Q E s := by
  rcases x.st with ⟨a, b, e1, e2⟩ | ⟨T, f, oT, e1, _⟩
  · exact wpAny_pyIter_zip e1 h
  · have hT : s.TypeIs (.ref z) "zip" := ⟨_, e1, rfl⟩
    refine wpAny_pyIter_slot hT PySem.F.slot_zip_iter (wpAny_call_entry PySem.F.slot_zip_iter hT PySem.F.entry_zip_iter ?_ (PySem.F.args_zip_iter_1 _))
    show wpAny _ _ (ret (.ref z)) _ _ s
    exact wpAny_pure ⟨_, rfl, "zip", _, hT, PySem.F.slot_zip_next.lookup, h⟩
end
/-! #### as a rule -/
end ZL

namespace DL
open PySem PySem.Spec PyProof.Rows L2
end DL

namespace DL
open PySem PySem.Spec PyProof.Rows L2
end DL

namespace DL
open PySem L2

/-! ### promises of defs from which inner defs run: the tables Ts of code objects may grow -/
structure AfterT (B : Bs) (Ts : List Addr) (F H : Hp) (v : V) (H' : Hp) (r : RT) (F' : Hp) : Prop where
  ef : Ex F F'
  fh : Ex F' H'
  fn : ∀ a o, H a = some o → F' a = F a
  eh : ∀ a o, a ∉ Ts → H a = some o → H' a = some o
  tb : ∀ t ∈ Ts, Tb B F' H' t
  res : ResOk B F' H H' v r
def TbAll (B : Bs) (Ts : List Addr) (F H : Hp) : Prop := ∀ t ∈ Ts, Tb B F H t ∧ F t = none
def spT (B : Bs) (Ts : List Addr) (S : List T → (RT → Prop) → Prop) : Sp := fun vs H Q _ => ∃ F ts, Ex F H ∧ DVs B F vs ts ∧ TbAll B Ts F H ∧ ∃ P : RT → Prop, S ts P ∧ ∀ r v H' F', P r → AfterT B Ts F H v H' r F' → Q v H'
structure AfterMT (B : Bs) (Ts : List Addr) (F H : Hp) (m : Addr) (v : V) (H' : Hp) (us : OW) (r : RT) (F' : Hp) : Prop where
  ef : Ex F F'
  fh : Ex F' H'
  fn : ∀ a o, H a = some o → F' a = F a
  eh : ∀ a o, a ≠ m → a ∉ Ts → H a = some o → H' a = some o
  tb : ∀ t ∈ Ts, Tb B F' H' t
  lst : OwAt B F' H' m us
  res : ResOk B F' H H' v r
def spMT (B : Bs) (Ts : List Addr) (S : OW → List T → (OW → RT → Prop) → Prop) : Sp := fun vs H Q _ => ∃ F m ws us ts, vs = .ref m :: ws ∧ Ex F H ∧ F m = none ∧ m ∉ Ts ∧ OwAt B F H m us ∧ DVs B F ws ts ∧ TbAll B Ts F H ∧
  ∃ P : OW → RT → Prop, S us ts P ∧ ∀ us' r v H' F', P us' r → AfterMT B Ts F H m v H' us' r F' → Q v H'
theorem Tb.at {B : Bs} {F H : Hp} {a : Addr} (t : Tb B F H a) : ∃ o, H a = some o := by
  obtain ⟨ps, h, _⟩ := t
  exact ⟨_, h⟩
theorem TbAll.ts {B : Bs} {Ts : List Addr} {F H : Hp} (h : TbAll B Ts F H) : ∀ t ∈ Ts, ∃ o, H t = some o := fun t ht => (h t ht).1.at
section
variable {c : Cn} {F F' : Hp} {g g' : Addr → Option Loc} {σ : L2.St} {H H' : Hp} {δ : List SV} {ρ : List (V × SV)} {Ts : List Addr}
/-- the heap grew by objects that nobody knew, tables changed -/
theorem StF.growT (hT : ∀ t ∈ Ts, t ∈ c.Ts) (S : StF c F g σ H δ ρ) (eh : ∀ a o, a ∉ Ts → H a = some o → H' a = some o) (tb : ∀ t ∈ Ts, Tb c.B F' H' t) (ef : Ex F F') (fh : Ex F' H') (fn : ∀ a o, H a = some o → F' a = F a) : StF c F' g σ H' δ ρ := by
  have no : ∀ a l, g a = some l → a ∉ Ts := fun a l e z => by
    have := (S.tb a (hT a z)).2.2
    rw [e] at this; cases this
  have own : ∀ a l, g a = some l → H' a = H a := fun a l e => by
    obtain ⟨_, u, hu⟩ := S.gn a l e
    rw [hu, eh a u (no a l e) hu]
  refine ⟨fh, S.f0.trans ef, fun a o e => ?_, fun a o e hA hq => eh a o (fun z => hq (hT a z)) (S.h0 a o e hA hq), S.len, fun i s e => (S.sl i s e).mono ef (fun _ h => h) fun a h => own a _ h, fun n p hp => (S.tm n p hp).mono ef (fun _ h => h) fun a h => own a _ h, fun a l e => ?_, fun a e => ?_, fun t ht => ?_⟩
  · obtain ⟨u, hu⟩ := S.here e
    rw [fn a u hu]; exact S.fn a o e
  · obtain ⟨h1, u, hu⟩ := S.gn a l e
    exact ⟨by rw [fn a u hu]; exact h1, u, by rw [own a l e]; exact hu⟩
  · obtain ⟨h1, ⟨u, hu⟩, h2⟩ := S.an a e
    refine ⟨by rw [fn a u hu]; exact h1, ?_, h2⟩
    by_cases z : a ∈ Ts
    · exact (tb a z).at
    · exact ⟨u, eh a u z hu⟩
  · obtain ⟨t1, t2, t3⟩ := S.tb t ht
    obtain ⟨o, ho⟩ := t1.at
    refine ⟨?_, by rw [fn t o ho]; exact t2, t3⟩
    by_cases z : t ∈ Ts
    · exact tb t z
    · exact t1.mono ef (by rw [ho, eh t o z ho])
theorem StF.tbAll (hT : ∀ t ∈ Ts, t ∈ c.Ts) (S : StF c F g σ H δ ρ) : TbAll c.B Ts F H := fun t ht => ⟨(S.tb t (hT t ht)).1, (S.tb t (hT t ht)).2.1⟩
end
section
variable {B : Bs} {Ts : List Addr} {F H : Hp} {N : List Str} {Q : VK} {t : TS}
/-- the state at the entry, of any start of the slots -/
theorem run_T {vs : List V} {ts : List T} {P : RT → Prop} {n : Nat} (fh : Ex F H) (hd : DVs B F vs ts) (hT : TbAll B Ts F H) (hN : N.length = ts.length + n) (q : ∀ r v H' F', P r → AfterT B Ts F H v H' r F' → Q v H')
    (h : ES ⟨B, F, H, none, Ts, hT.ts⟩ t (ts.map .d ++ nos n) { rt := fun _ r => RTr P r, nx := fun _ => P (.d .non) }) : t { nx := fun _ H' => Q .non H', rt := Q } (start N vs) H := by
  have hvl := hd.length
  have S0 : StF ⟨B, F, H, none, Ts, hT.ts⟩ F (fun _ => none) (start N vs) H (ts.map .d ++ nos n) [] := by
    refine ⟨fh, Ex.refl F, fun _ _ _ => rfl, fun a o e _ _ => e, ?_, fun i s e => ?_, fun n p e => by simp at e, fun a l e => (by cases e), fun a e => (by cases e), fun t ht => ⟨(hT t ht).1, (hT t ht).2, rfl⟩⟩
    · rw [start_len (by omega)]; unfold nos; rw [List.length_append, List.length_map, List.length_replicate, hN]
    · by_cases hi : i < ts.length
      · rw [List.getElem?_append_left (by simpa using hi), List.getElem?_map] at e
        obtain ⟨t, ht⟩ : ∃ t, ts[i]? = some t := ⟨ts[i], by simp [hi]⟩
        rw [ht] at e; cases e
        obtain ⟨v, e1, hv⟩ := hd.get ht
        exact ⟨v, by rw [start_get e1]; rfl, hv⟩
      · rw [List.getElem?_append_right (by simpa using hi)] at e
        have := List.mem_of_getElem? e
        have : s = .no := List.eq_of_mem_replicate this
        subst this; trivial
  refine h _ _ [] _ ⟨F, _, S0⟩ ⟨fun σ H' δ k S => ?_, fun v σ H' δ r k S => ?_, fun _ _ _ k _ => k.elim, fun _ _ _ k _ => k.elim⟩
  · obtain ⟨F', g, S⟩ := S
    exact q _ _ _ F' k ⟨S.f0, S.fh, S.fn, fun a o n e => S.h0 a o e (by intro z; cases z) n, fun t ht => (S.tb t ht).1, by simp only [ResOk, DV]⟩
  · obtain ⟨F', g, S, top⟩ := S
    have eh : ∀ a o, a ∉ Ts → H a = some o → H' a = some o := fun a o n e => S.h0 a o e (by intro z; cases z) n
    have tb : ∀ t ∈ Ts, Tb B F' H' t := fun t ht => (S.tb t ht).1
    cases r with
    | d t => exact q (.d t) v H' F' k ⟨S.f0, S.fh, S.fn, eh, tb, top⟩
    | own a o =>
      obtain ⟨rfl, h1, h2, h3⟩ := top
      exact q (.new o) _ H' F' k ⟨S.f0, S.fh, S.fn, eh, tb, a, rfl, h2, (S.gn a _ h1).1, h3⟩
    | no => exact k.elim
    | arg a o => exact k.elim
    | ptr a => exact k.elim
    | lv _ _ => exact k.elim
    | tv _ _ => exact k.elim
    | zv _ _ _ _ _ => exact k.elim
    | nst _ _ => exact k.elim
theorem run_MT {ws : List V} {us : OW} {ts : List T} {m : Addr} {P : OW → RT → Prop} {n : Nat} (fh : Ex F H) (fm : F m = none) (nm : m ∉ Ts) (hm : OwAt B F H m us) (hd : DVs B F ws ts) (hT : TbAll B Ts F H) (hN : N.length = ts.length + n + 1) (q : ∀ us' r v H' F', P us' r → AfterMT B Ts F H m v H' us' r F' → Q v H')
    (h : ES ⟨B, F, H, some m, Ts, hT.ts⟩ t (.arg m us :: (ts.map .d ++ nos n)) { rt := fun δ r => ∃ us', δ[0]? = some (.arg m us') ∧ RTr (P us') r, nx := fun δ => ∃ us', δ[0]? = some (.arg m us') ∧ P us' (.d .non) }) : t { nx := fun _ H' => Q .non H', rt := Q } (start N (.ref m :: ws)) H := by
  have hvl := hd.length
  obtain ⟨u, hu⟩ := hm.some
  have S0 : StF ⟨B, F, H, some m, Ts, hT.ts⟩ F (fun b => if b = m then some (.slot 0) else none) (start N (.ref m :: ws)) H (.arg m us :: (ts.map .d ++ nos n)) [] := by
    refine ⟨fh, Ex.refl F, fun _ _ _ => rfl, fun a o e _ _ => e, ?_, fun i s e => ?_, fun n p e => by simp at e, fun a l e => ?_, fun a e => ?_, fun t ht => ⟨(hT t ht).1, (hT t ht).2, if_neg fun z => nm (by rw [← z]; exact ht)⟩⟩
    · rw [start_len (by rw [List.length_cons]; omega)]; unfold nos; rw [List.length_cons, List.length_append, List.length_map, List.length_replicate, hN]
    · cases i with
      | zero =>
        simp at e; subst e
        exact ⟨by rw [start_get (vs := .ref m :: ws) (i := 0) rfl]; rfl, if_pos rfl, rfl, hm⟩
      | succ i =>
        rw [List.getElem?_cons_succ] at e
        by_cases hi : i < ts.length
        · rw [List.getElem?_append_left (by simpa using hi), List.getElem?_map] at e
          obtain ⟨t, ht⟩ : ∃ t, ts[i]? = some t := ⟨ts[i], by simp [hi]⟩
          rw [ht] at e; cases e
          obtain ⟨v, e1, hv⟩ := hd.get ht
          exact ⟨v, by rw [start_get (vs := .ref m :: ws) (i := i + 1) (by rw [List.getElem?_cons_succ]; exact e1)]; rfl, hv⟩
        · rw [List.getElem?_append_right (by simpa using hi)] at e
          have := List.mem_of_getElem? e
          have : s = .no := List.eq_of_mem_replicate this
          subst this; trivial
    · by_cases z : a = m
      · subst z; exact ⟨fm, u, hu⟩
      · rw [if_neg z] at e; cases e
    · have e : some m = some a := e
      cases e; exact ⟨fm, ⟨u, hu⟩, u, hu⟩
  refine h _ _ [] _ ⟨F, _, S0⟩ ⟨fun σ H' δ ⟨us', hδ, k⟩ S => ?_, fun v σ H' δ r ⟨us', hδ, k⟩ S => ?_, fun _ _ _ k _ => k.elim, fun _ _ _ k _ => k.elim⟩
  · obtain ⟨F', g, S⟩ := S
    obtain ⟨_, _, _, hl⟩ := S.sl 0 _ hδ
    exact q us' _ _ _ F' k ⟨S.f0, S.fh, S.fn, fun a o n nt e => S.h0 a o e (fun z => n (by cases z; rfl)) nt, fun t ht => (S.tb t ht).1, hl, by simp only [ResOk, DV]⟩
  · obtain ⟨F', g, S, top⟩ := S
    obtain ⟨_, _, _, hl⟩ := S.sl 0 _ hδ
    have eh : ∀ a o, a ≠ m → a ∉ Ts → H a = some o → H' a = some o := fun a o n nt e => S.h0 a o e (fun z => n (by cases z; rfl)) nt
    have tb : ∀ t ∈ Ts, Tb B F' H' t := fun t ht => (S.tb t ht).1
    cases r with
    | d t => exact q us' (.d t) v H' F' k ⟨S.f0, S.fh, S.fn, eh, tb, hl, top⟩
    | own a o =>
      obtain ⟨rfl, h1, h2, h3⟩ := top
      exact q us' (.new o) _ H' F' k ⟨S.f0, S.fh, S.fn, eh, tb, hl, a, rfl, h2, (S.gn a _ h1).1, h3⟩
    | no => exact k.elim
    | arg a o => exact k.elim
    | ptr a => exact k.elim
    | lv _ _ => exact k.elim
    | tv _ _ => exact k.elim
    | zv _ _ _ _ _ => exact k.elim
    | nst _ _ => exact k.elim
end
section
variable {c : Cn} {δ : List SV} {Post : List SV → SV → Prop} {ta : TA} {E : XK} {Ts : List Addr}
theorem spT_go {F : Hp} {g : Addr → Option Loc} {σ : L2.St} {H : Hp} {ρ : List (V × SV)} {S : List T → (RT → Prop) → Prop} {vs : List V} {ts : List T} {P : RT → Prop} {Q : VK} (hT : ∀ t ∈ Ts, t ∈ c.Ts) (S2 : StF c F g σ H δ ρ) (hd : DVs c.B F vs ts) (hS : S ts P) (k : ∀ r, P r → RTp Post δ r) (q : ∀ v H' δ' r, Post δ' r → St1 c σ H' δ' ρ v r → Q v H') : spT c.B Ts S vs H Q E :=
  ⟨F, ts, S2.fh, hd, S2.tbAll hT, P, hS, fun r v H' F' hp A => by
    obtain ⟨s, k2, S3⟩ := (S2.growT hT A.eh A.tb A.ef A.fh A.fn).res S2.gnone S2.h0n A.res (k r hp)
    exact q v H' δ s k2 S3⟩
/-- a call of a def of data that may fill the tables -/
theorem ev_callT {S : List T → (RT → Prop) → Prop} (hT : ∀ t ∈ Ts, t ∈ c.Ts) (h : EVA c ta δ fun δ1 rs => ∃ ts, rs = ts.map .d ∧ ∃ P : RT → Prop, S ts P ∧ ∀ r, P r → RTp Post δ1 r) : EV c (tCall (spT c.B Ts S) [] E ta) δ Post := fun σ H ρ Q S0 q =>
  h σ H ρ _ S0 fun vs H1 δ1 rs ⟨ts, e, P, hS, k⟩ hl S1 => by
    subst e
    obtain ⟨F, g, S2, hd⟩ := S1.args hl
    exact spT_go hT S2 (by rw [List.append_nil]; exact hd) hS k q
/-- .. of an owned list and data -/
theorem ev_callMT {S : OW → List T → (OW → RT → Prop) → Prop} (hT : ∀ t ∈ Ts, t ∈ c.Ts) (h : EVA c ta δ fun δ1 rs => ∃ a ts, rs = .ptr a :: ts.map .d ∧ ∃ (j : Nat) (us : OW) (P : OW → RT → Prop), S us ts P ∧
    ((δ1[j]? = some (SV.own a us) ∧ ∀ us' r, P us' r → RTp Post (δ1.set j (.own a us')) r) ∨ (δ1[j]? = some (SV.arg a us) ∧ ∀ us' r, P us' r → RTp Post (δ1.set j (.arg a us')) r))) : EV c (tCall (spMT c.B Ts S) [] E ta) δ Post := fun σ H ρ Q S0 q =>
  h σ H ρ _ S0 fun vs H1 δ1 rs ⟨a, ts, e, j, us, P, hS, k⟩ hl S1 => by
    subst e
    match vs, hl, S1 with
    | v0 :: ws, hl, S1 =>
    have S1 : St c σ H1 δ1 (ρ ++ (v0, .ptr a) :: ws.zip (ts.map SV.d)) := S1
    rw [show ρ ++ (v0, SV.ptr a) :: ws.zip (ts.map SV.d) = (ρ ++ [(v0, .ptr a)]) ++ ws.zip (ts.map SV.d) by simp] at S1
    obtain ⟨F, g, S2, hd⟩ := S1.args (by simpa using hl)
    have e : v0 = .ref a := S2.last
    subst e
    have S3 := S2.drop
    have own : (∃ l, g a = some l) ∧ F a = none ∧ OwAt c.B F H1 a us := by
      rcases k with ⟨hj, _⟩ | ⟨hj, _⟩
      · obtain ⟨_, h1, h2, h3⟩ := S3.sl j _ hj; exact ⟨⟨_, h1⟩, (S3.gn a _ h1).1, h3⟩
      · obtain ⟨_, h1, h2, h3⟩ := S3.sl j _ hj; exact ⟨⟨_, h1⟩, (S3.gn a _ h1).1, h3⟩
    obtain ⟨⟨la, hla⟩, fa, ho⟩ := own
    have na : a ∉ Ts := fun z => by
      have := (S3.tb a (hT a z)).2.2
      rw [hla] at this; cases this
    obtain ⟨u0, hx⟩ := ho.some
    refine ⟨F, a, ws, us, ts, by rw [List.append_nil], S3.fh, fa, na, ho, hd, S3.tbAll hT, P, hS, fun us' r v H' F' hp A => ?_⟩
    obtain ⟨u1, hy⟩ := A.lst.some
    have fa' : F' a = none := by rw [A.fn a _ hx]; exact fa
    let H2 : Hp := fun b => if b = a then H1 a else H' b
    have e2a : H2 a = H1 a := if_pos rfl
    have e2n : ∀ b, b ≠ a → H2 b = H' b := fun b n => if_neg n
    have eh : ∀ b o, b ∉ Ts → H1 b = some o → H2 b = some o := fun b o nb e => by
      by_cases z : b = a
      · rw [z] at e ⊢; rw [e2a]; exact e
      · rw [e2n b z]; exact A.eh b o z nb e
    have fh : Ex F' H2 := fun b o e => by
      by_cases z : b = a
      · rw [z, fa'] at e; cases e
      · rw [e2n b z]; exact A.fh b o e
    have tb : ∀ t ∈ Ts, Tb c.B F' H2 t := fun t ht => (A.tb t ht).mono (Ex.refl _) (e2n t fun z => na (by rw [← z]; exact ht))
    have S4 := S3.growT hT eh tb A.ef fh A.fn
    have eU : upd H2 a u1 = H' := by
      funext b
      by_cases z : b = a
      · rw [z, upd_same, hy]
      · rw [upd_ne z, e2n b z]
    have res : ResOk c.B F' H1 H' v r := A.res
    rcases k with ⟨hj, k⟩ | ⟨hj, k⟩
    · have S5 := S4.updO (o' := us') (u := u1) hj (A.lst.mono (Ex.refl F') (by rw [eU]))
      rw [eU] at S5
      obtain ⟨s, k2, S6⟩ := S5.res S3.gnone S3.h0n res (k us' r hp)
      exact q v H' _ s k2 S6
    · have S5 := S4.updA (o' := us') (u := u1) hj (A.lst.mono (Ex.refl F') (by rw [eU]))
      rw [eU] at S5
      obtain ⟨s, k2, S6⟩ := S5.res S3.gnone S3.h0n res (k us' r hp)
      exact q v H' _ s k2 S6
end
end DL

namespace DL
open PySem PySem.Spec PyProof.Rows L2 NdefX LamX

/-! ### an inner def runs: the table at P may get its code object -/
def tNdefE (P : Addr) (pos : Pos) (i : Nat) (mk : Addr → NF) : TS := fun D σ H => ∃ ps : Array Value, H P = some (.tbl ps) ∧ TriplesOk ps.toList ∧
  (∀ cv, codeAmong pos ps.toList = some cv → ∃ d, cv = .ref d ∧ H d = some (CodeO d (mk d).qual)) ∧
  (codeAmong pos ps.toList = none → ∀ f d, H d = none → H f = none → f ≠ d → D.nx (σ.set i (some (.ref f))) (upd (upd (upd H P (.tbl (ps ++ #[rawInt pos.line, rawInt pos.col, .ref d]))) d (CodeO d (mk d).qual)) f (FnO f (mk d)))) ∧
  ∀ d, codeAmong pos ps.toList = some (.ref d) → ∀ f, H f = none → D.nx (σ.set i (some (.ref f))) (upd H f (FnO f (mk d)))
section
variable {X : Cx}
theorem ps_ndefE {cd P : Addr} {name : Str} {params : Arguments} {body : List Stmt} {scope : Scope} {pos : Pos} {i : Nat} (tabs : TabB X.base X.mg cd P) (code : X.env.code = .ref cd)
    (fr : ∀ y ∈ scope.names, y.2 = .free → X.env.scope.names.lookup y.1 = some .cell ∨ X.env.scope.names.lookup y.1 = some .free) (d0 : params.defaults = []) (k0 : params.kw_defaults = []) (an : annTrees params none X.env = [])
    (nd : X.N.Nodup) (at_ : X.N[i]? = some name) (lc : L2.Loc X.env.scope name) (fn : X.fn name = true ∨ X.env.scope.names.lookup name = some .local) :
    PS X (.FunctionDef name params body [] none [] scope none name pos) (tNdefE P pos i fun d => ⟨name, X.env.qual ++ name, params, body, scope, cloFrom X.env.cells scope.names [], d⟩) := by
  constructor
  rintro pins s σ H D I ⟨ps, eP, tr, told, new, hit⟩
  have q0 : qualnameIn X.env name name = X.env.qual ++ name := by
    rcases (show X.env.kindOf name = some .local ∨ X.env.kindOf name = some .cell from lc) with k | k
    · unfold qualnameIn; rw [k]
      first | rfl | exact if_neg (by decide)
    · unfold qualnameIn; rw [k]
      first | rfl | exact if_neg (by decide)
  refine PySem.W.nestDef_K d0 k0 an ?_
  rw [q0]
  have clo : ∀ y ∈ scope.names, y.2 = .free → ∃ c, X.env.cells.lookup y.1 = some c := fun y m e => by
    rcases fr y m e with z | z
    · exact I.ok.has _ (.inl z)
    · exact I.ok.has _ (.inr z)
  have bi := tabs.bm.keeps I.bk
  have ob := I.hok P _ eP
  have ob : s.heap.get? P = some { cls := .none, data := .fields ps } := ob
  cases found : codeAmong pos ps.toList with
  | some cv =>
    obtain ⟨d, rfl, atD⟩ := told cv found
    apply PySem.W.makeFunction_hit (closure_ok clo) I.ok.glob (I.mod.glob.keeps I.bk) code (tabs.code.keeps I.bk) ob tr found bi
    intro ctv doc h2 tk kept size
    have J : Inv X pins σ H { s with heap := h2, toks := tk } := I.kept kept
    have nF := J.hok.fresh (Nat.le_refl h2.objs.size)
    have J2 := inv_fn (F := ⟨name, X.env.qual ++ name, params, body, scope, cloFrom X.env.cells scope.names [], d⟩) (t' := tk) (doc := doc) (pm := (X.mg "__name__").getD .none) (ctv := ctv) J rfl
    exact store_ok J2 nd at_ lc (v := .ref h2.objs.size) rfl (fun s3 J3 => ⟨_, _, J3, hit d found _ nF⟩) fn
  | none =>
    apply PySem.W.makeFunction_K (closure_ok clo) I.ok.glob (I.mod.glob.keeps I.bk) code (tabs.code.keeps I.bk) ob tr found tabs.gP bi
    intro d ctv doc h2 tk kept ge lt isCode isTab
    obtain ⟨d2, oc, vs, t, e2, o1, o2, o3⟩ := isCode
    cases e2
    have nD := I.hok.fresh ge
    have J := inv_table (t' := tk) (more := #[rawInt pos.line, rawInt pos.col, .ref d]) (h' := h2) I eP (fun b o ne e => kept b o ne e) isTab ge ⟨oc, vs, t, o1, o2, o3⟩
    have nF := I.hok.fresh (Nat.le_trans ge (Nat.le_of_lt lt))
    have J2 := inv_fn (F := ⟨name, X.env.qual ++ name, params, body, scope, cloFrom X.env.cells scope.names [], d⟩) (t' := tk) (doc := doc) (pm := (X.mg "__name__").getD .none) (ctv := ctv) J rfl
    exact store_ok J2 nd at_ lc (v := .ref h2.objs.size) rfl (fun s3 J3 => ⟨_, _, J3, new found _ d nD nF (Nat.ne_of_gt lt)⟩) fn
end
theorem ps_ndefES {X : Cx} {st : Stmt} {cd P : Addr} {name : Str} {pos : Pos} {i : Nat} (hst : st = .FunctionDef name (C8.fnArgs st) (C8.fnBody st) [] none [] (C8.fnScope st) none name pos) (tabs : TabB X.base X.mg cd P) (code : X.env.code = .ref cd)
    (fr : ∀ y ∈ (C8.fnScope st).names, y.2 = .free → X.env.scope.names.lookup y.1 = some .cell ∨ X.env.scope.names.lookup y.1 = some .free) (d0 : (C8.fnArgs st).defaults = []) (k0 : (C8.fnArgs st).kw_defaults = []) (an : annTrees (C8.fnArgs st) none X.env = [])
    (nd : X.N.Nodup) (at_ : X.N[i]? = some name) (lc : L2.Loc X.env.scope name) (fn : X.fn name = true ∨ X.env.scope.names.lookup name = some .local) :
    PS X st (tNdefE P pos i (NF.of st name (X.env.qual ++ name) (cloFrom X.env.cells (C8.fnScope st).names []))) := by
  have h := ps_ndefE (body := C8.fnBody st) (pos := pos) tabs code fr d0 k0 an nd at_ lc fn
  rw [← hst] at h
  exact h
section
variable {c : Cn} {δ : List SV} {R : DEnds}
theorem es_ndef {P : Addr} {pos : Pos} {i : Nat} {mk : Addr → NF} (hT : P ∈ c.Ts) (hc : ∀ d, (mk d).c = d) (hn : ∀ d, (mk d).qual = nameAt c.B.P pos.line pos.col) (h : ∀ d, R.nx (δ.set i (.d (.fn (mk d))))) : ES c (tNdefE P pos i mk) δ R := fun σ H ρ D ⟨F, g, S⟩ M => by
  obtain ⟨⟨ps, h1, h2, h3⟩, hF, hg⟩ := S.tb P hT
  have dv : ∀ {F : Hp} {f d : Addr}, F f = some (FnO f (mk d)) → F d = some (CodeO d (mk d).qual) → DV c.B F (.ref f) (.fn (mk d)) := fun {F f d} a b => by
    simp only [DV]
    exact ⟨f, rfl, a, by rw [hc]; exact b⟩
  refine ⟨ps, h1, h2, fun cv z => ?_, fun none f d nD nF ne => ?_, fun d z f nF => ?_⟩
  · obtain ⟨d, e1, e2⟩ := h3 pos cv z
    exact ⟨d, e1, by rw [hn]; exact S.fh _ _ e2⟩
  · have fD := S.fh.fresh nD
    have fF := S.fh.fresh nF
    have nPd : P ≠ d := fun z => by rw [z, nD] at h1; cases h1
    have nPf : P ≠ f := fun z => by rw [z, nF] at h1; cases h1
    let F2 : Hp := upd (upd F d (CodeO d (mk d).qual)) f (FnO f (mk d))
    let H2 : Hp := upd (upd (upd H P (.tbl (ps ++ #[rawInt pos.line, rawInt pos.col, .ref d]))) d (CodeO d (mk d).qual)) f (FnO f (mk d))
    have e1 : Ex F F2 := (Ex.new fD).trans (Ex.new (by rw [upd_ne ne]; exact fF))
    have f2d : F2 d = some (CodeO d (mk d).qual) := by show upd (upd F d _) f _ d = _; rw [upd_ne ne.symm, upd_same]
    have f2f : F2 f = some (FnO f (mk d)) := upd_same
    have eh : ∀ a o, a ∉ c.Ts → H a = some o → H2 a = some o := fun a o n e => by
      have n1 : a ≠ P := fun z => n (by rw [z]; exact hT)
      have n2 : a ≠ d := fun z => by rw [z, nD] at e; cases e
      have n3 : a ≠ f := fun z => by rw [z, nF] at e; cases e
      show upd (upd (upd H P _) d _) f _ a = _
      rw [upd_ne n3, upd_ne n2, upd_ne n1]; exact e
    have fh : Ex F2 H2 := fun a o e => by
      by_cases z : a = f
      · subst z; rw [f2f] at e; rw [← e]; exact upd_same
      · by_cases z2 : a = d
        · subst z2; rw [f2d] at e; rw [← e]; show upd (upd (upd H P _) a _) f _ a = _; rw [upd_ne z, upd_same]
        · have e' : F a = some o := by
            have e2 : upd (upd F d _) f _ a = some o := e
            rw [upd_ne z, upd_ne z2] at e2; exact e2
          have z3 : a ≠ P := fun y => by rw [y, hF] at e'; cases e'
          show upd (upd (upd H P _) d _) f _ a = _
          rw [upd_ne z, upd_ne z2, upd_ne z3]; exact S.fh _ _ e'
    have fn : ∀ a o, H a = some o → F2 a = F a := fun a o e => by
      have n2 : a ≠ d := fun z => by rw [z, nD] at e; cases e
      have n3 : a ≠ f := fun z => by rw [z, nF] at e; cases e
      show upd (upd F d _) f _ a = _
      rw [upd_ne n3, upd_ne n2]
    have tb : ∀ t ∈ c.Ts, Tb c.B F2 H2 t := fun t ht => by
      by_cases z : t = P
      · subst z
        have eL : (ps ++ #[rawInt pos.line, rawInt pos.col, .ref d]).toList = ps.toList ++ [rawInt pos.line, rawInt pos.col, .ref d] := by simp
        refine ⟨_, (by show upd (upd (upd H t _) d _) f _ t = _; rw [upd_ne nPf, upd_ne nPd, upd_same]), by rw [eL]; exact PySem.TriplesOk_snoc _ _ _ _ h2, fun p2 cv hcv => ?_⟩
        rw [eL] at hcv
        rcases among_app2 _ h2 hcv with y | ⟨rfl, y1, y2⟩
        · obtain ⟨d0, y1, y2⟩ := h3 p2 cv y
          exact ⟨d0, y1, e1 _ _ y2⟩
        · exact ⟨d, rfl, by rw [f2d, hn, y1, y2]⟩
      · obtain ⟨t1, _, _⟩ := S.tb t ht
        obtain ⟨o, ho⟩ := t1.at
        have n2 : t ≠ d := fun z => by rw [z, nD] at ho; cases ho
        have n3 : t ≠ f := fun z => by rw [z, nF] at ho; cases ho
        exact t1.mono e1 (by show upd (upd (upd H P _) d _) f _ t = _; rw [upd_ne n3, upd_ne n2, upd_ne z])
    have S2 := S.growT (Ts := c.Ts) (fun _ h => h) eh tb e1 fh fn
    exact M.nx _ _ _ (h d) (St1.store ⟨F2, g, S2, dv f2f f2d⟩)
  · have fF := S.fh.fresh nF
    obtain ⟨d0, e0, e2⟩ := h3 pos _ z
    cases e0
    let F2 : Hp := upd F f (FnO f (mk d))
    have e1 : Ex F F2 := Ex.new fF
    have nd : d ≠ f := fun z => by rw [z, fF] at e2; cases e2
    have S2 := S.grow (H' := upd H f (FnO f (mk d))) (F' := F2) (Ex.new nF) e1 (S.fh.both) (fun a o e => upd_ne fun z => by rw [z, nF] at e; cases e)
    exact M.nx _ _ _ (h d) (St1.store ⟨F2, g, S2, dv upd_same (by show upd F f _ d = _; rw [upd_ne nd, hn]; exact e2)⟩)
end

/-! ### what an inner def promises: of what it captured and of what it is given, all data -/
def spN (B : Bs) (S : List T → List T → (RT → Prop) → Prop) : List (Option V) → Sp := fun ws vs H Q _ => ∃ F vw tw ts, ws = vw.map some ∧ Ex F H ∧ DVs B F vw tw ∧ DVs B F vs ts ∧ ∃ P : RT → Prop, S tw ts P ∧ ∀ r v H' F', P r → AfterP B F H v H' r F' → Q v H'
section
variable {B : Bs} {F H : Hp} {N : List Str} {Q : VK} {t : TS}
theorem run_N {vs vw : List V} {ts tw : List T} {P : RT → Prop} {n : Nat} (fh : Ex F H) (hw : DVs B F vw tw) (hd : DVs B F vs ts) (hN : N.length = ts.length + tw.length + n) (q : ∀ r v H' F', P r → AfterP B F H v H' r F' → Q v H')
    (h : ES ⟨B, F, H, none, [], fun _ h => absurd h List.not_mem_nil⟩ t (ts.map .d ++ (tw.map .d ++ nos n)) { rt := fun _ r => RTr P r, nx := fun _ => P (.d .non) }) : t { nx := fun _ H' => Q .non H', rt := Q } (startF N vs (vw.map some)) H := by
  have l1 := hd.length
  have l2 := hw.length
  have S0 : StF ⟨B, F, H, none, [], fun _ h => absurd h List.not_mem_nil⟩ F (fun _ => none) (startF N vs (vw.map some)) H (ts.map .d ++ (tw.map .d ++ nos n)) [] := by
    refine ⟨fh, Ex.refl F, fun _ _ _ => rfl, fun a o e _ _ => e, ?_, fun i s e => ?_, fun n p e => by simp at e, fun a l e => (by cases e), fun a e => (by cases e), fun _ h => absurd h List.not_mem_nil⟩
    · unfold startF nos
      simp only [List.length_append, List.length_map, List.length_replicate]
      omega
    · unfold startF
      by_cases hi : i < ts.length
      · rw [List.getElem?_append_left (by simpa using hi), List.getElem?_map] at e
        obtain ⟨t, ht⟩ : ∃ t, ts[i]? = some t := ⟨ts[i], by simp [hi]⟩
        rw [ht] at e; cases e
        obtain ⟨v, e1, hv⟩ := hd.get ht
        exact ⟨v, by rw [List.getElem?_append_left (by rw [List.length_map, l1]; exact hi), List.getElem?_map, e1]; rfl, hv⟩
      · rw [List.getElem?_append_right (by simpa using hi), List.length_map] at e
        by_cases hj : i - ts.length < tw.length
        · rw [List.getElem?_append_left (by simpa using hj), List.getElem?_map] at e
          obtain ⟨t, ht⟩ : ∃ t, tw[i - ts.length]? = some t := ⟨tw[i - ts.length], by simp [hj]⟩
          rw [ht] at e; cases e
          obtain ⟨v, e1, hv⟩ := hw.get ht
          refine ⟨v, ?_, hv⟩
          have z : i - (vs.map some).length = i - ts.length := by rw [List.length_map, l1]
          rw [List.getElem?_append_right (by rw [List.length_map]; omega), z, List.getElem?_append_left (by rw [List.length_map]; omega), List.getElem?_map, e1]
          rfl
        · rw [List.getElem?_append_right (by simpa using hj)] at e
          have := List.mem_of_getElem? e
          have : s = .no := List.eq_of_mem_replicate this
          subst this; trivial
  refine h _ _ [] _ ⟨F, _, S0⟩ ⟨fun σ H' δ k S => ?_, fun v σ H' δ r k S => ?_, fun _ _ _ k _ => k.elim, fun _ _ _ k _ => k.elim⟩
  · obtain ⟨F', g, S⟩ := S
    exact q _ _ _ F' k ⟨S.f0, S.fh, S.fn, fun a o e => S.h0 a o e (by intro z; cases z) List.not_mem_nil, by simp only [ResOk, DV]⟩
  · obtain ⟨F', g, S, top⟩ := S
    have eh : Ex H H' := fun a o e => S.h0 a o e (by intro z; cases z) List.not_mem_nil
    cases r with
    | d t => exact q (.d t) v H' F' k ⟨S.f0, S.fh, S.fn, eh, top⟩
    | own a o =>
      obtain ⟨rfl, h1, h2, h3⟩ := top
      exact q (.new o) _ H' F' k ⟨S.f0, S.fh, S.fn, eh, a, rfl, h2, (S.gn a _ h1).1, h3⟩
    | no => exact k.elim
    | arg a o => exact k.elim
    | ptr a => exact k.elim
    | lv _ _ => exact k.elim
    | tv _ _ => exact k.elim
    | zv _ _ _ _ _ => exact k.elim
    | nst _ _ => exact k.elim
end

/-! ### f(..), f a name that holds an inner def's function; what its cells hold was told at the entry -/
/-- what the cells cl hold, at a call from the frames outer -/
structure Known (outer : List Env) (s : Shared) (H : Hp) (cl : List (Str × Addr)) (fr : List Str) (ws : List (Option V)) : Prop where
  cells : CellsAt cl fr ws s.heap H
  nf : ∀ y c, cl.lookup y = some c → c ∉ frs outer
theorem known_of {X : Cx} {pins : List (Addr × Obj)} {σ : L2.St} {H : Hp} {s : Shared} {cl : List (Str × Addr)} {fr : List Str} {js : List Nat} (I : Inv X pins σ H s) (cp : Caps X cl fr js) (fn : ∀ x, X.fn x = true) : Known X.stack s H cl fr (js.map (slotAt σ)) where
  cells := cells_of I cp
  nf := fun y d e z => by
    have hc := cp.sub y d e
    obtain ⟨v, o, ho, hd⟩ := I.cell y d hc
    rcases List.mem_cons.mp (I.stkSub d z) with q | q
    · obtain ⟨m, ⟨o2, es, ep, h1, h2, _⟩, _⟩ := I.loc
      rw [← q, ho] at h1
      cases h1
      rw [hd] at h2
      cases h2
    · obtain ⟨_, o2, h1, _⟩ := I.ok.funs.mem q
      have := I.ok.cab y d (fn y) hc
      exact absurd (Heap.lt_size h1) (Nat.not_lt.mpr this)
def tLook (i : Nat) (q : NF) (ws : List (Option V)) (sp : List (Option V) → Sp) (t : TA) : TE := fun σ H Q => ∃ f, σ[i]? = some (some (.ref f)) ∧ H f = some (FnO f q) ∧
  t σ H fun vs H1 => H1 f = some (FnO f q) ∧ H1 q.c = some (CodeO q.c q.qual) ∧ sp ws vs H1 Q E0
section
variable {Z : Cx} {q : NF} {ps fr : List Str} {ws : List (Option V)} {sp : List (Option V) → Sp} {i j k : Nat} {x : Str} {t : TA} {e : Expr} {es : List Expr} {p pos : Pos}
/-- a function that the running def got at its entry, and how it answers -/
structure Got (Z : Cx) (k : Nat) (q : NF) (ps fr : List Str) (ws : List (Option V)) (sp : List (Option V) → Sp) : Prop where
  ok : ∀ f, NOk Z.prog Z.w Z.K Z.mg Z.base CX0 k f q ps fr sp
  cells : CellsAt q.cl fr ws Z.s_0.heap Z.H_0
  nf : ∀ y c, q.cl.lookup y = some c → c ∉ Z.fs
  nx : ∀ y c, q.cl.lookup y = some c → c ∉ Z.ex
theorem pe_look (G : Got Z k q ps fr ws sp) (room : L2.Room k Z.A) (hN : Z.N[i]? = some x) (hv : Vis Z.env.scope x) (ha : PA Z (e :: es) t)
    (hd : (x == ("__debug__" : Str)) = false := by decide) (hcd : (x == ("__classdict__" : Str)) = false := by decide)
    (he : starEach (e :: es) Z.env = (false, eval e Z.env) :: starEach es Z.env := by rfl) (hpl : (backTo pos (starEach es Z.env)).any (·.1) = false := by rfl) :
    PE Z (.Call (.Name x p) (e :: es) [] pos) (tLook i q ws sp t) := by
  constructor
  rintro pins s σ H Q I ⟨f, at_, isF, rest⟩
  apply wpAny_Call_Name_kw
  apply thn ((pe_var (pos := p) hN hv hd hcd).run pins s σ H (fun v H1 => v = .ref f ∧ H1 = H) I ⟨.ref f, at_, rfl, rfl⟩)
  rintro u s1 ⟨v, H1, I1, rel, rfl, rfl⟩
  obtain rfl : u = Value.ref f := rel
  apply PySem.W.callWith_F (first := []) (fnAt_of I1 isF) (thn (ha.run pos pins s1 σ _ _ I1 rest) _) he hpl
  rintro us s2 ⟨vs, H2, I2, r, h1, h2, want⟩
  refine ⟨fnAt_of I2 h1, ?_⟩
  refine wpAny_call (codeAny_mono ((G.ok f).run Z.A Z.stack s2 H2 us vs ws Q E0 room I2.env0 h1 h2 (G.cells.later G.nf G.nx I2) r want) ?_)
  rintro (e | _ | _ | _ | u) s3 z
  · exact (show False from z).elim
  · exact (show False from z).elim
  · exact (show False from z).elim
  · exact (show False from z).elim
  · exact I2.after z
end
section
variable {c : Cn} {δ : List SV} {Post : List SV → SV → Prop} {ta : TA}
theorem ev_look {i : Nat} {q : NF} {vw : List V} {tw : List T} {S : List T → List T → (RT → Prop) → Prop} (hi : δ[i]? = some (.d (.fn q))) (hw : DVs c.B c.F0 vw tw)
    (h : EVA c ta δ fun δ1 rs => ∃ ts, rs = ts.map .d ∧ δ1[i]? = some (.d (.fn q)) ∧ S tw ts (RTp Post δ1)) : EV c (tLook i q (vw.map some) (spN c.B S) ta) δ Post := fun σ H ρ Q S0 k => by
  obtain ⟨F, g, S1⟩ := id S0
  obtain ⟨v, e1, hv⟩ := S1.data hi
  simp only [DV] at hv
  obtain ⟨f, rfl, f1, f2⟩ := hv
  refine ⟨f, e1, S1.fh _ _ f1, h σ H ρ _ S0 fun vs H1 δ1 rs ⟨ts, e, hi1, hS⟩ hl S2 => ?_⟩
  subst e
  obtain ⟨F1, g1, S3, hd⟩ := S2.args hl
  obtain ⟨v, e2, hv⟩ := S3.data hi1
  rw [e1] at e2
  cases e2
  simp only [DV] at hv
  obtain ⟨f', e3, f1, f2⟩ := hv
  cases e3
  refine ⟨S3.fh _ _ f1, S3.fh _ _ f2, F1, vw, tw, ts, rfl, S3.fh, DVs.mono S3.f0 _ _ hw, hd, _, hS, fun r v H' F' hp A => ?_⟩
  obtain ⟨s, k2, S4⟩ := (S3.grow A.eh A.ef A.fh A.fn).res S3.gnone S3.h0n A.res hp
  exact k v H' δ1 s k2 S4
end

/-! ### a def that gets a function -/
structure FnF (P : Program) (w : World) (K : PySem.W.Frag) (mg : Str → Option Value) (base : Heap) (k : Nat) (f : Addr) (fd : FuncData) (ps : List Str) (sp : List Env → Shared → Sp) : Prop where
  ar : ∀ outer s vs H Q E, sp outer s vs H Q E → vs.length = ps.length
  go : ∀ A outer s H args us vs Q E, L2.Room k A → Env0 P w K mg base A outer s H → BindsTo s fd args (ps.zip us) → Vals vs us → sp outer s vs H Q E →
    codeAny (model P w) A (.call (.ref f) args) (CR CX0 outer P w H s Q E) s
structure CalF (P : Program) (w : World) (K : PySem.W.Frag) (mg : Str → Option Value) (base : Heap) (x : Str) (k : Nat) (ps : List Str) (sp : List Env → Shared → Sp) where
  f : Addr
  fd : FuncData
  ok : FnF P w K mg base k f fd ps sp
  mg : mg x = some (.ref f)
  kp : PySem.W.keepIn K (.ref f) = true
  bd : Binds K fd ps []
section
variable {P : Program} {w : World} {K : PySem.W.Frag} {mg : Str → Option Value} {base : Heap}
theorem FnF.make {x qual : Str} {st : Stmt} {f : Addr} {fd : FuncData} {N ps : List Str} {k : Nat} {sp : List Env → Shared → Sp} (Fn : Fun K x qual st f fd) (S : FnScope N ps (defScope st)) (ar : ∀ outer s vs H Q E, sp outer s vs H Q E → vs.length = ps.length)
    (body : ∀ (cdv : Value) (A : Around) (outer : List Env) (s : Shared) (H : Hp) (vs : List V) (Q : VK) (E : XK), L2.Room k (A.deeper (envOfC qual (defScope st) s.heap.objs.size f cdv)) → sp outer s vs H Q E →
      ∃ t, PSs (cxOf CX0 P w K mg base N qual (defScope st) f cdv A outer s H E).nox (defBody st) t ∧ t { nx := fun _ H' => Q .non H', rt := Q } (start N vs) H) : FnF P w K mg base (k + 1) f fd ps sp := by
  obtain ⟨oc, od, kV, doc, pm, an, cdv, ct, osl, rfl, look, hcode⟩ := Fn.ex
  refine ⟨ar, fun A outer s H args us vs Q E room ground bind vals want => ?_⟩
  refine run_ofS look hcode S room ground bind vals (ar _ _ _ _ _ _ want) fun room2 => ?_
  obtain ⟨t, derive, holds⟩ := body cdv A outer s H vs Q E room2 want
  exact ⟨t, derive.nox, holds⟩
end
def tCallF (cl : List (Str × Addr)) (fr : List Str) (js : List Nat) (sp : List Env → Shared → Sp) (t : TA) : TE := fun σ H Q => t σ H fun vs H1 => ∀ outer s, Known outer s H1 cl fr (js.map (slotAt σ)) → sp outer s vs H1 Q E0
section
variable {X : Cx} {k : Nat} {f : Addr} {fd : FuncData} {ps fr : List Str} {js : List Nat} {cl : List (Str × Addr)} {sp : List Env → Shared → Sp} {x : Str} {e : Expr} {es : List Expr} {t : TA} {p pos : Pos}
theorem pe_callF (F : FnF X.prog X.w X.K X.mg X.base k f fd ps sp) (cp : X.Ok → Caps X cl fr js) (fn : ∀ x, X.fn x = true) (room : L2.Room k X.A) (hg : Gl X x) (hm : X.mg x = some (.ref f)) (hk : PySem.W.keepIn X.K (.ref f) = true) (bd : Binds X.K fd ps [])
    (ha : PA X (e :: es) t) (hdb : (x == ("__debug__" : Str)) = false := by decide) (he : starEach (e :: es) X.env = (false, eval e X.env) :: starEach es X.env := by rfl) (hpl : (backTo pos (starEach es X.env)).any (·.1) = false := by rfl) :
    PE X (.Call (.Name x p) (e :: es) [] pos) (tCallF cl fr js sp t) := by
  constructor
  intro pins s σ H Q I h
  refine wpAny_Call_Name_kw (ld_glob I hg hm (PySem.W.callWith_K (h₀ := X.base) I.ok.mod.kin hk (thn (ha.run pos pins s σ H _ I h) ?_) he hpl) hdb)
  rintro us s1 ⟨vs, H1, I1, r, want⟩
  have want := want _ _ (known_of I1 (cp I1.ok) fn)
  refine ⟨I1.kIn, ?_⟩
  have hl : us.length = ps.length := r.length.symm.trans (F.ar _ _ _ _ _ _ want)
  have b0 := bd s1 us I1.kIn (by simpa using hl)
  rw [List.append_nil] at b0
  refine wpAny_call (codeAny_mono (F.go X.A X.stack s1 H1 ⟨us, []⟩ us vs Q E0 room I1.env0 b0 r want) ?_)
  rintro (e | _ | _ | _ | u) s2 z
  · exact (show False from z).elim
  · exact (show False from z).elim
  · exact (show False from z).elim
  · exact (show False from z).elim
  · exact I1.after z
end
/-- the promise of a def that gets one function of k levels, and data -/
def spF (P : Program) (w : World) (K : PySem.W.Frag) (mg : Str → Option Value) (base : Heap) (k : Nat) (SF : NF → (List T → (RT → Prop) → Prop) → List T → (RT → Prop) → Prop) : List Env → Shared → Sp := fun outer s vs H Q _ =>
  ∃ (F : Hp) (ts : List T) (q : NF) (qs fr : List Str) (vw : List V) (tw : List T) (S : List T → List T → (RT → Prop) → Prop), Ex F H ∧ DVs ⟨P, w, K⟩ F vs ts ∧ Known outer s H q.cl fr (vw.map some) ∧ DVs ⟨P, w, K⟩ F vw tw ∧
    (∀ f, NOk P w K mg base CX0 k f q qs fr (spN ⟨P, w, K⟩ S)) ∧ ∃ PP : RT → Prop, SF q (S tw) ts PP ∧ ∀ r v H' F', PP r → AfterP ⟨P, w, K⟩ F H v H' r F' → Q v H'
section
variable {c : Cn} {δ : List SV} {Post : List SV → SV → Prop} {ta : TA} {mg : Str → Option Value} {base : Heap} {k : Nat} {SF : NF → (List T → (RT → Prop) → Prop) → List T → (RT → Prop) → Prop}
theorem slots_dv {F : Hp} {g : Addr → Option Loc} {σ : L2.St} {H : Hp} {ρ : List (V × SV)} (S : StF c F g σ H δ ρ) : ∀ {js : List Nat} {tw : List T}, (∀ i : Nat, (js[i]?).bind (fun j => δ[j]?) = (tw[i]?).map SV.d) → js.length = tw.length → ∃ vw : List V, js.map (slotAt σ) = vw.map some ∧ DVs c.B F vw tw
  | [], [], _, _ => ⟨[], rfl, .nil⟩
  | [], _ :: _, _, h => by cases h
  | _ :: _, [], _, h => by cases h
  | j :: js, t :: tw, h, hl => by
    obtain ⟨v, e1, hv⟩ := S.data (i := j) (t := t) (by simpa using h 0)
    obtain ⟨vw, e2, h2⟩ := slots_dv S (js := js) (tw := tw) (fun i => by simpa using h (i + 1)) (by simpa using hl)
    exact ⟨v :: vw, by rw [List.map_cons, List.map_cons, slotAt_of e1, e2], .cons hv h2⟩
theorem ev_callF {cl : List (Str × Addr)} {fr : List Str} {js : List Nat} (h : EVA c ta δ fun δ1 rs => ∃ (ts tw : List T) (q : NF) (qs : List Str) (S : List T → List T → (RT → Prop) → Prop), rs = ts.map .d ∧ q.cl = cl ∧ (∀ i : Nat, (js[i]?).bind (fun j => δ1[j]?) = (tw[i]?).map SV.d) ∧ js.length = tw.length ∧
    (∀ f, NOk c.B.P c.B.w c.B.K mg base CX0 k f q qs fr (spN c.B S)) ∧ SF q (S tw) ts (RTp Post δ1)) : EV c (tCallF cl fr js (spF c.B.P c.B.w c.B.K mg base k SF) ta) δ Post := fun σ H ρ Q S0 kk =>
  h σ H ρ _ S0 fun vs H1 δ1 rs ⟨ts, tw, q, qs, S, e, ecl, hjs, hlj, ok, hS⟩ hl S1 outer s known => by
    subst e
    subst ecl
    obtain ⟨F, g, S2, hd⟩ := S1.args hl
    obtain ⟨vw, e2, hw⟩ := slots_dv S2 hjs hlj
    rw [e2] at known
    refine ⟨F, ts, q, qs, fr, vw, tw, S, S2.fh, hd, known, hw, ok, _, hS, fun r v H' F' hp A => ?_⟩
    obtain ⟨s, k2, S3⟩ := (S2.grow A.eh A.ef A.fh A.fn).res S2.gnone S2.h0n A.res hp
    exact kk v H' δ1 s k2 S3
end
end DL

namespace DL
open PySem PySem.Spec PyProof.Rows L2 NdefX LamX

/-! ### a def whose code object is known -/
structure FunC (K : PySem.W.Frag) (x qual : Str) (st : Stmt) (f : Addr) (fd : FuncData) (cd : Addr) : Prop where
  ex : ∃ (oc : Value) (od : Option Addr) (kV doc pm : Value) (an : Option Addr) (ct : Value) (osl : Array (Option Value)),
    fd = PySem.W.fnOf x qual (defArgs st) (defBody st) (defScope st) .none kV doc pm an (.ref cd) ct ∧ K.lookup f = some ⟨oc, od, .func fd, osl⟩ ∧ PySem.W.codeIn K (.ref cd) qual = true
  kp : PySem.W.keepIn K (.ref f) = true
section
variable {P : Program} {w : World} {K : PySem.W.Frag} {mg : Str → Option Value} {base : Heap}
theorem funC_mk {x qual : Str} {st : Stmt} {f cd : Addr} {oc : Value} {od an : Option Addr} {osl : Array (Option Value)} {kV doc pm ct : Value} (l : K.lookup f = some ⟨oc, od, .func (PySem.W.fnOf x qual (defArgs st) (defBody st) (defScope st) .none kV doc pm an (.ref cd) ct), osl⟩)
    (hc : PySem.W.codeIn K (.ref cd) qual = true) (k : PySem.W.keepIn K (.ref f) = true) : FunC K x qual st f (PySem.W.fnOf x qual (defArgs st) (defBody st) (defScope st) .none kV doc pm an (.ref cd) ct) cd := ⟨⟨oc, od, kV, doc, pm, an, ct, osl, rfl, l, hc⟩, k⟩
theorem FunC.go {x qual : Str} {st : Stmt} {f cd : Addr} {fd : FuncData} {N ps : List Str} {k : Nat} {sp : Sp} (Fn : FunC K x qual st f fd cd) (S : FnScope N ps (defScope st)) (ar : ∀ vs H Q E, sp vs H Q E → vs.length = ps.length)
    (body : ∀ (A : Around) (outer : List Env) (s : Shared) (H : Hp) (vs : List V) (Q : VK) (E : XK), L2.Room k (A.deeper (envOfC qual (defScope st) s.heap.objs.size f (.ref cd))) → sp vs H Q E →
      ∃ t, PSs (cxOf CX0 P w K mg base N qual (defScope st) f (.ref cd) A outer s H E).nox (defBody st) t ∧ t { nx := fun _ H' => Q .non H', rt := Q } (start N vs) H) : FnOk P w K mg base CX0 (k + 1) f fd ps sp := by
  obtain ⟨oc, od, kV, doc, pm, an, ct, osl, rfl, look, hcode⟩ := Fn.ex
  refine fn_of look hcode S ar fun A outer s H vs Q E room want => ?_
  obtain ⟨t, derive, holds⟩ := body A outer s H vs Q E room want
  exact ⟨t, derive.nox, holds⟩
end

/-! ### the law, with tables -/
/-- where a def's inner code objects are kept: an empty table at the start -/
structure TabAt (h : Heap) (K : PySem.W.Frag) (cd P : Addr) : Prop where
  hd : PySem.W.CodeHd h cd P
  emp : h.get? P = some { cls := .none, data := .fields #[] }
  out : K.lookup P = none
def DefTabs (mg : Str → Option Value) (h : Heap) (x : Str) : Prop := ∃ (a : Addr) (o : Obj) (fd : FuncData) (cd P : Addr), mg x = some (.ref a) ∧ h.get? a = some o ∧ o.data = .func fd ∧ fd.code = .ref cd ∧ PySem.W.CodeHd h cd P ∧ h.get? P = some { cls := .none, data := .fields #[] }
theorem tab_at {mg : Str → Option Value} {h : Heap} {K : PySem.W.Frag} {x qual : Str} {st : Stmt} {f cd : Addr} {fd : FuncData} (T : DefTabs mg h x) (X : K.In h) (no : (K.all fun q => !He.emptyTab q.2) = true) (g : mg x = some (.ref f)) (Fn : FunC K x qual st f fd cd) : ∃ P, TabAt h K cd P := by
  obtain ⟨a, o, fd2, cd2, P, h1, h2, h3, h4, h5, h6⟩ := T
  obtain ⟨oc, od, kV, doc, pm, an, ct, osl, rfl, look, hcode⟩ := Fn.ex
  rw [g] at h1
  cases h1
  rw [X _ _ look] at h2
  cases h2
  cases h3
  cases h4
  refine ⟨P, h5, h6, ?_⟩
  cases e : K.lookup P with
  | none => rfl
  | some o =>
    have h7 := X _ _ e
    rw [h6] at h7
    cases h7
    have h8 := List.all_eq_true.mp no _ (He.lookup_mem e)
    have h8 : (false : Bool) = true := h8
    cases h8
section
variable {P : Program} {w : World} {K : PySem.W.Frag} {mg mb : Str → Option Value}
theorem law_callGT {k : Nat} {fa a : Addr} {cs : List (Addr × Addr)} {fd : FuncData} {x : Str} {sp : Sp} {s₁ : Shared} {vs : List Value} {ns : List Int}
    (inK : K.In s₁.heap) (hns : s₁.heap.Ns mainGlobals mg) (hb : s₁.heap.Ns builtinsNs mb) (boot : ∀ x : Str, x ≠ "__name__" → mb x = bootBuiltins x) (lim : s₁.heap.NoLimit) (gens : s₁.gens = #[])
    (tabs : ∀ p ∈ cs, TabAt s₁.heap K p.1 p.2)
    (bmod : ∃ (bm : Addr) (ob : Obj), mg "__builtins__" = some (.ref bm) ∧ bm ≠ builtinsNs ∧ s₁.heap.get? bm = some ob ∧ ob.cls = .type "module" ∧ ob.dict = some builtinsNs ∧ ob.data = .plain)
    (ha : s₁.heap.get? a = some { cls := .type "list", data := .seq vs.toArray }) (hi : IntsAre vs ns) (hl : ns.length ≤ sizeLine) (room : L2.Room k callerA)
    (F : ∀ base : Heap, K.In base → base.Ns mainGlobals mg → (∀ p ∈ cs, TabB base mg p.1 p.2) → FnG P w K mg base k fa fd [x] sp) (bind : ∀ (s : Shared) (u : Value), BindsTo s fd ⟨[u], []⟩ [(x, u)])
    (want : ∀ H : Hp, (∀ p ∈ cs, H p.2 = some (.tbl #[])) → SqL K H a (ns.map V.int) → sp [.ref a] H (fun v _ => v = .bl true) E0) :
    GivesTrue P w fa a s₁ := by
  have rel := L2.vals_ints hi
  have hlv : vs.length = ns.length := hi.length
  let ob : Obj := { cls := .type "list", data := .seq vs.toArray }
  let isT : Addr → Prop := fun b => b ∈ cs.map (·.2)
  have decT : ∀ b, Decidable (isT b) := fun b => inferInstanceAs (Decidable (b ∈ cs.map (·.2)))
  let G0 : Hp := fun b => if b ∈ cs.map (·.2) then some (.tbl #[]) else if b = a ∧ K.lookup a = none then some (.frz ob (.lst (ns.map V.int))) else none
  have tObj : ∀ {b : Addr}, b ∈ cs.map (·.2) → s₁.heap.get? b = some { cls := .none, data := .fields #[] } ∧ K.lookup b = none := fun {b} z => by
    obtain ⟨p, hp, rfl⟩ := List.mem_map.mp z
    exact ⟨(tabs p hp).emp, (tabs p hp).out⟩
  have aN : a ∉ cs.map (·.2) := fun z => by
    have := (tObj z).1
    rw [ha] at this
    cases this
  have g0 : ∀ {b : Addr} {u : HO}, G0 b = some u → (b ∈ cs.map (·.2) ∧ u = .tbl #[]) ∨ (b = a ∧ K.lookup a = none ∧ u = .frz ob (.lst (ns.map V.int))) := by
    intro b u z
    by_cases q : b ∈ cs.map (·.2)
    · have z2 : some (HO.tbl #[]) = some u := (if_pos q).symm.trans z
      injection z2 with z2
      exact .inl ⟨q, z2.symm⟩
    · have z : (if b = a ∧ K.lookup a = none then some (HO.frz ob (.lst (ns.map V.int))) else none) = some u := (if_neg q).symm.trans z
      by_cases q : b = a ∧ K.lookup a = none
      · have z2 : some (HO.frz ob (.lst (ns.map V.int))) = some u := (if_pos q).symm.trans z
        injection z2 with z2
        exact .inr ⟨q.1, q.2, z2.symm⟩
      · have z2 : none = some u := (if_neg q).symm.trans z
        cases z2
  have told : HOk P w G0 s₁.heap := fun b u z => by
    rcases g0 z with ⟨z1, rfl⟩ | ⟨rfl, _, rfl⟩
    · exact (tObj z1).1
    · exact ⟨ha, by rw [List.length_map]; exact hl, vs, _, rel, ha⟩
  have seq : SqL K G0 a (ns.map V.int) := by
    cases q : K.lookup a with
    | none => exact .inl (.inr ⟨ob, (if_neg aN).trans (if_pos ⟨rfl, q⟩)⟩)
    | some o =>
      have z := inK a o q
      rw [ha] at z
      injection z with z
      subst z
      exact .inr ⟨_, vs.toArray, _, q, rfl, rfl, rfl, by rw [List.size_toArray, hlv]; exact hl, by simpa using rel⟩
  have none_of : ∀ {b : Addr} {o : Obj}, s₁.heap.get? b = some o → (∀ vs n, o.data ≠ .seq vs n) → o.data ≠ .fields #[] → (hidT s₁.heap G0).get? b = some o := fun {b o} z n1 n2 => hidT_get z (by
    cases q : G0 b with
    | none => rfl
    | some u =>
      rcases g0 q with ⟨z1, _⟩ | ⟨rfl, _, _⟩
      · have := (tObj z1).1
        rw [z] at this
        cases this
        exact absurd rfl n2
      · rw [ha] at z
        cases z
        exact absurd rfl (n1 _ _))
  have dicts : ∀ {b : Addr} {m : Str → Option Value}, s₁.heap.Ns b m → (hidT s₁.heap G0).Ns b m := by
    rintro b m ⟨o, es, ep, z, zd, zr⟩
    exact ⟨o, es, ep, none_of z (fun vs n q => by rw [zd] at q; cases q) (fun q => by rw [zd] at q; cases q), zd, zr⟩
  have inB : K.In (hidT s₁.heap G0) := fun b o z => hidT_get (inK b o z) (by
    cases q : G0 b with
    | none => rfl
    | some u =>
      rcases g0 q with ⟨z1, _⟩ | ⟨rfl, z1, _⟩
      · rw [(tObj z1).2] at z; cases z
      · rw [z1] at z; cases z)
  have limB : (hidT s₁.heap G0).NoLimit := by
    obtain ⟨mc, z1, z2⟩ := lim
    exact ⟨mc, dicts z1, z2⟩
  have TB : ∀ p ∈ cs, TabB (hidT s₁.heap G0) mg p.1 p.2 := fun p hp => by
    have empty := (tabs p hp).emp
    obtain ⟨o, us, file, tf, flags, tg, inF, text, tt, c1, c2, c3, c4, c5⟩ := (tabs p hp).hd
    obtain ⟨bm, om, b1, b2, b3, b4, b5, b6⟩ := bmod
    obtain ⟨og, es, ep, y1, y2, _⟩ := id hns
    refine ⟨⟨o, us, file, tf, flags, tg, inF, text, tt, none_of c1 (fun vs n z => by rw [c3] at z; cases z) (fun z => by rw [c3] at z; cases z; simp at c4), c2, c3, c4, c5⟩, ⟨bm, om, b1, b2, fun q => ?_, fun q => ?_, none_of b3 (fun vs n z => by rw [b6] at z; cases z) (fun z => by rw [b6] at z; cases z), b4, b5, b6⟩, fun q => ?_⟩
    · rw [q, y1] at b3; cases b3; rw [y2] at b6; cases b6
    · rw [q, empty] at b3; cases b3; cases b6
    · rw [q, empty] at y1; cases y1; cases y2
  have ground : Env0 P w K mg (hidT s₁.heap G0) callerA [] s₁ G0 := {
    frames := rfl
    mod := ⟨inB, dicts hns, ⟨mb, dicts hb, boot⟩, limB⟩
    bs := fun b o z => of_hidT z
    bsz := Nat.le_of_eq (hidT_size _ _)
    funs := trivial
    frf := fun b z => by cases z
    hok := told
    bare := .of_eq gens }
  have start : ∀ p ∈ cs, G0 p.2 = some (.tbl #[]) := fun p hp => if_pos (List.mem_map.mpr ⟨p, hp, rfl⟩)
  refine codeAny_mono ((F _ inB (dicts hns) TB).go callerA [] s₁ G0 ⟨[.ref a], []⟩ [.ref a] [.ref a] _ E0 rfl room ground (bind s₁ (.ref a)) (.cons rfl .nil) (want G0 start seq)) ?_
  rintro (e | _ | _ | _ | u) s2 z
  · exact (show False from z).elim
  · exact (show False from z).elim
  · exact (show False from z).elim
  · exact (show False from z).elim
  · obtain ⟨v, H2, os, bare, un, hok2, rel2, zv⟩ := z
    have zv : v = .bl true := zv
    subst zv
    obtain rfl : u = Value.bool true := rel2
    have still : ∀ b o, b ∉ cs.map (·.2) → s₁.heap.get? b = some o → s2.heap.get? b = some o := by
      intro b o nb zb
      cases q : G0 b with
      | none => exact un.keep b o zb q (fun z => by cases z) (by simp)
      | some u =>
        rcases g0 q with ⟨z1, _⟩ | ⟨_, _, rfl⟩
        · exact absurd z1 nb
        · have z1 := (told b _ q).1
          have z2 := (hok2 b _ (un.frzs b _ _ q)).1
          rw [zb] at z1
          injection z1 with z1
          subst z1
          exact z2
    have now : ∀ p ∈ cs, ∃ more : Array Value, s2.heap.get? p.2 = some { cls := .none, data := .fields more } := fun p hp => by
      obtain ⟨more, z⟩ := un.tbls p.2 #[] (start p hp)
      exact ⟨_, hok2 p.2 _ z⟩
    refine ⟨rfl, ⟨fun b o zb => ?_, fun b o zb => ?_⟩, os, bare⟩
    · by_cases q : b ∈ cs.map (·.2)
      · obtain ⟨p, hp, rfl⟩ := List.mem_map.mp q
        obtain ⟨more, hm⟩ := now p hp
        have empty := (tabs p hp).emp
        rw [empty] at zb
        cases zb
        exact .inr (.inl ⟨((tabs p hp).hd.tab empty).isCodeTable, rfl, #[], more, rfl, by rw [Array.empty_append]; exact hm⟩)
      · exact .inl (still b o q zb)
    · by_cases q : b ∈ cs.map (·.2)
      · obtain ⟨p, hp, rfl⟩ := List.mem_map.mp q
        obtain ⟨more, hm⟩ := now p hp
        exact ⟨_, hm⟩
      · exact ⟨o, still b o q zb⟩
theorem walk_ofGT {l : PySem.W.OpenLaw} {n k : Nat} {q : Program} {loose : List Str} {XP : (Str → Option Value) → Heap → Prop} {YP : World → Heap → Prop} {d : DefRec} {K : Params → PySem.W.Frag} {sp : List Addr → PySem.W.Frag → Sp} {x : Str} (names : List Str)
    (hn : l.most = some n) (hn2 : n ≤ sizeLine) (hdf : d.params.defaults = []) (room : L2.Room k callerA) (hY : ∀ (w : World) (h : Heap), YP w h → (K w.params).In h) (rec : ∀ y ∈ names, ((recsOf q).any fun e => e.name == y) = true)
    (F : ∀ (w : World) (mg : Str → Option Value) (fa : Addr) (h : Heap), (K w.params).In h → h.Ns mainGlobals mg → (∀ y ∈ names, DefTabs mg h y) → mg d.name = some (.ref fa) →
      ∃ (fd : FuncData) (cs : List (Addr × Addr)), (∀ p ∈ cs, TabAt h (K w.params) p.1 p.2) ∧ (∀ (s : Shared) (u : Value), BindsTo s fd ⟨[u], []⟩ [(x, u)]) ∧ ∀ base : Heap, (K w.params).In base → base.Ns mainGlobals mg → (∀ p ∈ cs, TabB base mg p.1 p.2) → FnG l.prog w (K w.params) mg base k fa fd [x] (sp (cs.map (·.2)) (K w.params)))
    (hsp : ∀ (Ts : List Addr) (K : PySem.W.Frag) (H : Hp) (a : Addr) (ns : List Int), ns.length ≤ n → (∀ t ∈ Ts, H t = some (.tbl #[])) → SqL K H a (ns.map V.int) → sp Ts K [.ref a] H (fun v _ => v = .bl true) E0) :
    PySem.W.WalkO q loose XP YP l.row.toRowW d [] fun g us => PySem.call g us := by
  refine Att.attach_call hn hdf ?_
  intro w s₀ s₁ mg mb fa o pm cd doc a vs ns gr Y ho hd hcd hmg hobj hil hlen gens
  have defs : ∀ y ∈ names, DefTabs mg s₁.heap y := fun y hy => by
    obtain ⟨dL, hm, hn1⟩ := List.any_eq_true.mp (rec y hy)
    obtain ⟨a', o', fd', c', P', h1, h2, h3, h4, h5, h6⟩ := gr.T.tab dL hm
    have e : dL.name = y := beq_iff_eq.mp hn1
    rw [e] at h1
    exact ⟨a', o', fd', c', P', h1, h2, h3, h4, .of h5 h6, h6.2⟩
  obtain ⟨fd, cs, tabs, hb, hF⟩ := F w mg fa _ (hY w _ Y) gr.T.g defs hmg
  refine law_callGT (hY w _ Y) gr.T.g gr.T.b gr.T.builtins gr.T.nolimit gens tabs gr.T.bmain hobj hil (Nat.le_trans hlen hn2) room hF hb ?_
  exact fun H h1 h2 => hsp _ _ H a ns hlen (fun t ht => by obtain ⟨p, hp, rfl⟩ := List.mem_map.mp ht; exact h1 p hp) h2
end
end DL

namespace DL
open PySem PySem.Spec PyProof.Rows L2

/-! ### {(..): v} -/
def tDisp1N (B : Bs) (tk tv : TE) : TE := fun σ H Q => ∀ p, H p = none → tk σ (upd H p (hoN B p [])) fun x H1 => tv σ H1 fun y H2 => ∃ k b, x = .ref b ∧ H2 p = some (hoN B p []) ∧ KeyAt B H2 x k ∧ Q (.ref p) (upd H2 p (hoN B p [(k, b, y)]))
def onePair (ps : List (V × V)) (R : V → V → Prop) : Prop := match ps with
  | [(x, y)] => R x y
  | _ => False
theorem pe_disp1N {X : Cx} {pos : Pos} {ke ve : Expr} {tk tv : TE} (hk : PE X ke tk) (hv : PE X ve tv) (hu : X.A.units + 64 < cLine) : PE X (.Dict [some ke] [ve] pos) (tDisp1N (Bx X) tk tv) := by
  constructor
  intro pins s σ H Q I q
  have fresh := I.hok.fresh (Nat.le_refl s.heap.objs.size)
  have I1 := I.laid (a := s.heap.objs.size) (o := hoN (Bx X) s.heap.objs.size []) (h' := s.heap.push { cls := .type "dict", data := .dict #[] }) (t' := s.toks) (fun _ _ z => Heap.get?_push_of_some _ z) (Nat.le_refl _) (by
    have g := Heap.get?_push_size s.heap (o := { cls := .type "dict", data := .dict #[] }) rfl
    exact ⟨⟨Nat.zero_le _, beq_eq_false_iff_ne.mpr (Ne.symm (Nat.ne_of_lt I.big)), ⟨fun e h => absurd h (by simp), [], Paired.nil, _, #[], 0, g, ⟨rfl, rfl, rfl⟩, rfl, rfl, List.nodup_nil⟩⟩, ⟨_, g⟩, fun h1 h2 => hoN_stay⟩)
  rw [arm_eval_Dict]
  rw [zip_pairTrees [some ke] [ve] X.env pos rfl rfl]
  rw [dictDisplay_pairs (pairTrees [some ke] [ve] X.env pos) (by simp [pairTrees]) (by simp [pairTrees])]
  refine wpAny_bind (wpAny_standAt (wpAny_bind ?_))
  apply wpAny_subDictH (knd := nestedKind X.prog X.w) (show X.A.units + 8 < cLine by omega) (by simp [pairTrees])
  apply thn ((pps_cons hk hv pps_nil).run pins _ σ _ (fun ps H2 => onePair ps fun x y => ∃ k b, x = .ref b ∧ H2 s.heap.objs.size = some (hoN (Bx X) s.heap.objs.size []) ∧ KeyAt (Bx X) H2 x k ∧ Q (.ref s.heap.objs.size) (upd H2 s.heap.objs.size (hoN (Bx X) s.heap.objs.size [(k, b, y)]))) I1 ?_)
  · rintro us s2 ⟨ps, H2, I2, rel, one⟩
    obtain ⟨x, y, rfl⟩ : ∃ x y, ps = [(x, y)] := by
      match ps, one with
      | [(x, y)], _ => exact ⟨x, y, rfl⟩
      | [], z => exact z.elim
      | _ :: _ :: _, z => exact z.elim
    obtain ⟨k, b, rfl, at_, ka, q2⟩ := one
    cases rel with
    | @cons _ u _ us r rs =>
    cases rs
    obtain ⟨r1, r2⟩ := r
    obtain ⟨k1, k2⟩ := key_at I2 ka r1
    obtain ⟨u1, u2⟩ := u
    have r1 : u1 = .ref b := r1
    subst r1
    obtain ⟨z1, hd, dp, xs, rel, dd⟩ := dn_of (es := []) I2 ⟨.inl at_, fun _ => none, [], fun _ _ z => (by cases z), rfl, .nil⟩
    cases rel
    refine ⟨[(k, b, u2)], ⟨rfl, rfl, ⟨k1, k2⟩, trivial⟩, dd, fun h3 tk2 dd2 hs => ?_⟩
    refine wpAny_pure ?_
    obtain ⟨o, es', ep, g1, g2, g3, g4, _, g5⟩ := dd2
    refine ⟨.ref s.heap.objs.size, _, d_write (ob := hoN (Bx X) s.heap.objs.size [(k, b, y)]) I2 (by rw [at_]; exact True.intro) hs ⟨o, g1⟩ ?_, rfl, q2⟩
    refine ⟨⟨(show 1 ≤ sizeLine by decide), hd, fun e he => ?_, [(k, b, u2)], .cons ⟨rfl, rfl, r2⟩ .nil, o, es', ep, g1, g2, g3, g4, g5⟩, ⟨o, g1⟩, fun h1 h2 => hoN_stay⟩
    obtain rfl := List.mem_singleton.mp he
    exact k2
  · have q := q _ fresh
    show tk σ _ _
    exact q
section
variable {α β : Type} [DecidableEq α] {c : Cn} {δ : List SV} {Post : List SV → SV → Prop} {te td tk tv : TE}
theorem ev_disp1N (ke : KeyEnc α) (ev : β → T) (h : EV c tk δ fun δ1 r => ∃ k : α, r = .d (ke.ek k) ∧ EV c tv δ1 fun δ2 r2 => ∃ x : β, Pu r2 (.d (ev x)) ∧ ∀ p, Post δ2 (.own p (.N ke ev [(k, x)]))) : EV c (tDisp1N c.B tk tv) δ Post := fun σ H ρ Q S q p hp => by
  obtain ⟨F, g, S0⟩ := S
  obtain ⟨g', S1, hg, _, h0⟩ := S0.newOwn (u := hoN c.B p []) hp
  have S2 := S1.retag (l := .tmp ρ.length) hg
  have S3 : StF c F _ σ (upd H p (hoN c.B p [])) δ (ρ ++ [(.ref p, .own p (.N ke ev ([] : List (α × β))))]) := S2.push ⟨rfl, if_pos rfl, h0, [], upd_same, rfl, .nil, .nil⟩
  refine h σ _ _ _ ⟨F, _, S3⟩ fun x H1 δ1 r ⟨k, e, k1⟩ S4 => ?_
  subst e
  refine k1 σ H1 _ _ S4.push fun y H2 δ2 r2 ⟨xv, pu, kk⟩ S5 => ?_
  obtain ⟨F2, g2, S7⟩ := S5.put pu
  have hy : DV c.B F2 y (ev xv) := S7.last
  have S8 := S7.drop
  have hx : DV c.B F2 x (ke.ek k) := S8.last
  have S9 := S8.drop
  obtain ⟨_, _, _, w⟩ := id S9.last
  unfold OW.N at w
  obtain ⟨es, e1, e2, e3, e4⟩ := w
  have e0 : es = [] := by
    cases es with
    | nil => rfl
    | cons e es => simp [T.nks] at e2
  subst e0
  obtain ⟨⟨b, rfl⟩, ka⟩ := key_ok S9.fh hx
  refine ⟨_, b, rfl, e1, ka, q _ _ δ2 _ (kk p) ?_⟩
  have S10 := S9.updT (u := hoN c.B p [(ke.en k, b, y)]) (o' := .N ke ev [(k, xv)]) ⟨_, upd_same, by rw [nks_map]; rfl, .cons hx .nil, .cons hy .nil⟩
  exact St.popO ⟨F2, g2, S10⟩
end

/-! ### the keys of a dict with tuple keys, one after the other; it stays locked -/
def ItKN (B : Bs) (d : Addr) (o : Obj) (es : List EN) : It :=
  ⟨fun i H => H d = some (.frz o (hoN B d es)) ∧ i < es.length, fun i H x H' => H' = H ∧ ∃ k b v, es[i]? = some (k, b, v) ∧ x = .ref b, fun i H => H d = some (.frz o (hoN B d es)) ∧ es.length ≤ i⟩
theorem turn_keysN {B : Bs} {d : Addr} {o : Obj} {es : List EN} {es0 : Array DictEntry} {ep : Nat} {tg : Expr} (it : Addr) (hod : o.data = .dict es0 ep) :
    Turn B.P B.w B.K tg (ItKN B d o es) [it] it (fun i h => h.IsKeyIter it d i es.length ep) where
  mem := by simp
  obj := fun i h st b hb => by
    obtain rfl : b = it := by simpa using hb
    obtain ⟨oi, z1, z2, z3⟩ := st
    refine ⟨oi, z1, fun v z => ?_⟩
    rw [z3] at z; cases z
  keep := fun i h h' st k => st.at fun oi z => k it (by simp) oi z
  item := by
    intro X hP hw hK hc i pins s σ H E I hf st hg
    obtain ⟨hd, hi⟩ := hg
    have eB : B = Bx X := by unfold Bx; rw [hP, hw, hK]
    rw [eB] at hd ⊢
    obtain ⟨f0, f1, f2, f3, f4, f5⟩ := hf it (by simp)
    obtain ⟨hs, es', ep', xs, hdt, raw, hsz, pn, hl⟩ := frzN I hd
    obtain ⟨rfl, rfl⟩ := L2.dict_ep hod hdt
    obtain ⟨⟨k, b, v⟩, hkv⟩ : ∃ p, es[i]? = some p := ⟨es[i], List.getElem?_eq_getElem hi⟩
    obtain ⟨u, hx, _⟩ := pn_get pn hkv
    have hent : es'[i]? = some (entryOfKey (nestedKind X.prog X.w) (k, b, u)) := by
      have z : es'.toList[i]? = some (entryOfKey (nestedKind X.prog X.w) (k, b, u)) := by rw [hl, List.getElem?_map, hx]; rfl
      rw [← z, Array.getElem?_toList]
    have ho := (I.hok d _ hd).1
    show wpAny (model X.prog X.w) X.A _ _ E s
    apply next_key_item st ho hdt hsz hent
    intro h2 st2 sb
    have I1 : Inv X pins σ H { s with heap := h2 } := I.turned (t' := s.toks) (fun b ob hb e => (sb.2 b hb).trans e) f0 f1 f3 f4 f5
    obtain ⟨oi, z1, z2, z3⟩ := id st2
    exact ⟨_, rfl, go_of (s := { s with heap := h2 }) z1 z2 z3 (by decide) ⟨.ref b, H, I1, rfl, ⟨rfl, k, b, v, hkv, rfl⟩, st2, fun b hb => (hf b hb).1⟩⟩
  done := by
    intro X hP hw hK hc i pins s σ H E I hf st hg
    obtain ⟨hd, hi⟩ := hg
    have eB : B = Bx X := by unfold Bx; rw [hP, hw, hK]
    rw [eB] at hd ⊢
    obtain ⟨f0, f1, f2, f3, f4, f5⟩ := hf it (by simp)
    obtain ⟨hs, es', ep', xs, hdt, raw, hsz, pn, hl⟩ := frzN I hd
    obtain ⟨rfl, rfl⟩ := L2.dict_ep hod hdt
    have ho := (I.hok d _ hd).1
    exact next_key_end (I.ok.hd hc) st ho hdt hsz hi fun h2 eb => ⟨rfl, I.turned (t' := s.toks) (fun b ob hb e => eb b ob hb e) f0 f1 f3 f4 f5⟩
  self := fun A i s Q E st h => by
    apply wpAny_pyIter_slot st.typeIs F.slot_dict_keyiterator_iter
    apply wpAny_call_entry F.slot_dict_keyiterator_iter st.typeIs F.entry_dict_keyiterator_iter _ (F.args_dict_keyiterator_iter_1 _)
    show wpAny _ _ (ret (.ref it)) _ _ s
    exact wpAny_pure ⟨_, rfl, "dict_keyiterator", _, st.typeIs, F.slot_dict_keyiterator_next.lookup, h⟩
def iKeysN (B : Bs) (td : TE) : TI := fun σ H R => td σ H fun x H1 => ∃ d es, x = .ref d ∧ H1 d = some (hoN B d es) ∧ ∀ o, R (ItKN B d o es) (upd H1 d (.frz o (hoN B d es)))
theorem pi_keysN {X : Cx} {tg e : Expr} {td : TE} (he : PE X e td) : PI X tg e (iKeysN (Bx X) td) := by
  constructor
  intro pins s σ H R I h
  apply thn (he.run pins s σ H _ I h)
  rintro u s1 ⟨x, H1, I1, rx, d, es, rfl, at_, q⟩
  obtain rfl : u = Value.ref d := rx
  obtain ⟨o, I2⟩ := I1.lock at_ True.intro
  obtain ⟨hs, es', ep, xs, hdt, raw, hsz, pn, hl⟩ := frzN I2 upd_same
  obtain ⟨o2, h1, h2, h3⟩ := raw
  have ho := (I2.hok d _ upd_same).1
  rw [ho] at h1
  cases h1
  refine iter_keys hs ho h2 hdt (pi_one (tk := s1.toks) I2 _ (turn_keysN (B := Bx X) _ hdt) ⟨_, Heap.get?_push_size _ rfl, rfl, ?_⟩ (q o))
  rw [hsz]
  rfl
section
variable {c : Cn} {δ : List SV} {Post : List SV → SV → Prop} {td : TE}
/-- of a new dict -/
theorem ei_keysF {P : List SV → (List SV → Prop) → List T → Prop} (h : EV c td δ fun δ1 r => ∃ a ks vs, r = .own a (.dN ks vs) ∧ P δ1 (fun _ => True) ks) : EVI c (iKeysN c.B td) δ P := fun σ H ρ R S q =>
  h σ H ρ _ S fun v H1 δ1 r ⟨a, ks, vs, e, k⟩ S1 => by
    subst e
    obtain ⟨F, gg, S2, rfl, ga, a0, es, h1, h2, h3, h4⟩ := S1
    refine ⟨a, es, rfl, h1, fun o => ?_⟩
    have S3 := (S2.retag (l := .tmp ρ.length) ga).push (p := (V.ref a, SV.own a (.dN ks vs))) ⟨rfl, if_pos rfl, a0, es, h1, h2, h3, h4⟩
    have S4 := S3.updT (u := .frz o (hoN c.B a es)) (o' := .lk o es ks vs) ⟨upd_same, h2, h3, h4⟩
    have hl := h3.length
    rw [List.length_map] at hl
    have key : ∀ {σ : L2.St} {H : Hp} {δ : List SV} {ρ' : List (V × SV)} {F : Hp} {gg : Addr → Option Loc}, StF c F gg σ H δ ((ρ ++ [(V.ref a, SV.own a (.lk o es ks vs))]) ++ ρ') → H a = some (.frz o (hoN c.B a es)) ∧ DVs c.B F (es.map fun e => V.ref e.2.1) ks := fun S => by
      obtain ⟨_, _, _, q1, _, q2, _⟩ := S.at
      exact ⟨q1, q2⟩
    refine q (ItKN c.B a o es) _ δ1 (.ref a, .own a (.lk o es ks vs)) _ _ k ⟨?_, ?_, ?_⟩ ⟨F, _, S4⟩
    · rintro i σ H δ ρ' hi _ ⟨F, gg, S⟩
      exact ⟨(key S).1, by omega⟩
    · rintro i σ H H' δ ρ' y hi _ ⟨F, gg, S⟩ ⟨rfl, kk, b, v, hp, rfl⟩
      obtain ⟨t, ht, hv⟩ := (key S).2.get' (i := i) (v := .ref b) (by rw [List.getElem?_map, hp]; rfl)
      exact ⟨t, ht, F, gg, S, hv⟩
    · rintro σ H δ ρ' _ ⟨F, gg, S⟩
      exact ⟨(key S).1, by omega⟩
/-- of a dict that slot j owns -/
theorem ei_keysO (j : Nat) {P : List SV → (List SV → Prop) → List T → Prop} (h : EV c td δ fun δ1 r => ∃ a ks vs, r = .ptr a ∧ δ1[j]? = some (.own a (.dN ks vs)) ∧ ∀ o es, P (δ1.set j (.own a (.lk o es ks vs))) (fun δ => Owns δ a (.lk o es ks vs)) ks) : EVI c (iKeysN c.B td) δ P := fun σ H ρ R S q =>
  h σ H ρ _ S fun v H1 δ1 r ⟨a, ks, vs, e, hj, k⟩ S1 => by
    subst e
    obtain ⟨F, gg, S2, e⟩ := S1
    have e : v = .ref a := e
    subst e
    obtain ⟨_, hg, h0, es, h1, h2, h3, h4⟩ := S2.sl j _ hj
    refine ⟨a, es, rfl, h1, fun o => ?_⟩
    have S3 := S2.updO (o' := .lk o es ks vs) (u := .frz o (hoN c.B a es)) hj ⟨upd_same, h2, h3, h4⟩
    have hl := h3.length
    rw [List.length_map] at hl
    refine q (ItKN c.B a o es) _ _ (.ref a, .ptr a) _ _ (k o es) ⟨?_, ?_, ?_⟩ ⟨F, gg, S3.push (p := (V.ref a, SV.ptr a)) rfl⟩
    · rintro i σ H δ ρ' hi w ⟨F, gg, S⟩
      exact ⟨(S.owned w).1, by omega⟩
    · rintro i σ H H' δ ρ' y hi w ⟨F, gg, S⟩ ⟨rfl, kk, b, v, hp, rfl⟩
      obtain ⟨q1, _, q3, _⟩ := S.owned w
      obtain ⟨t, ht, hv⟩ := q3.get' (i := i) (v := .ref b) (by rw [List.getElem?_map, hp]; rfl)
      exact ⟨t, ht, F, gg, S, hv⟩
    · rintro σ H δ ρ' w ⟨F, gg, S⟩
      exact ⟨(S.owned w).1, by omega⟩
end
end DL

namespace DL
open PySem L2

/-! ### x, y = two new things, names that inner scopes may see -/
section
variable {c : Cn} {δ : List SV} {R : DEnds} {ta : TA}
theorem es_asgTup2 {i j : Nat} (hij : i ≠ j) (h : EVA c ta δ fun δ1 rs => ∃ (a1 : Addr) (o1 : OW) (a2 : Addr) (o2 : OW), rs = [.own a1 o1, .own a2 o2] ∧ R.nx ((δ1.set i (.own a1 o1)).set j (.own a2 o2))) : ES c (tAsg (tTup ta) (gTup c.B.K 2 (gCons (gName i) (gCons (gName j) gNil)))) δ R := fun σ H ρ D S M =>
  h σ H ρ _ S fun vs H1 δ1 rs ⟨a1, o1, a2, o2, e, k⟩ hl S1 => by
    subst e
    match vs, hl, S1 with
    | [v1, v2], hl, S1 =>
    obtain ⟨F, g, S1⟩ := S1
    have S1 : StF c F g σ H1 δ1 (ρ ++ [(v1, .own a1 o1), (v2, .own a2 o2)]) := S1
    refine ⟨show 2 ≤ sizeLine by decide +kernel, fun p hp => ?_⟩
    obtain ⟨S3, ef⟩ := S1.newTup (u := .tup [v1, v2]) hp
    refine ⟨p, [v1, v2], rfl, SqT.of upd_same, rfl, v1, [v2], rfl, v2, [], rfl, rfl, ?_⟩
    have S4 := S3.tmpToSlot (i := i) (n := ρ.length) (v := v1) (a := a1) (o := o1) (by rw [List.getElem?_append_right (by omega)]; simp)
    rw [List.set_append_right _ _ (by omega)] at S4
    have S5 := S4.tmpToSlot (i := j) (n := ρ.length + 1) (v := v2) (a := a2) (o := o2) (by rw [List.getElem?_append_right (by omega)]; simp)
    rw [List.set_append_right _ _ (by omega)] at S5
    exact M.nx _ _ _ k ⟨_, _, S5.drop⟩
end
end DL

namespace DL
open PySem PyProof.Rows L2
/-- a def whose code object is known is a def -/
theorem FunC.toFun {K : PySem.W.Frag} {x qual : Str} {st : Stmt} {f cd : Addr} {fd : FuncData} (F : FunC K x qual st f fd cd) : Fun K x qual st f fd := by
  obtain ⟨oc, od, kV, doc, pm, an, ct, osl, rfl, lk, hc⟩ := F.ex
  exact ⟨⟨oc, od, kV, doc, pm, an, .ref cd, ct, osl, rfl, lk, hc⟩, F.kp⟩
end DL

namespace DL
open PySem L2

/-! ### the data of services -/
abbrev Stp := Str × Str × Str × Int
abbrev K3 := Str × Str × Str
def kyOf (s : Stp) : K3 := (s.1, s.2.1, s.2.2.1)
def goalOf (s : Stp) : Int := s.2.2.2
abbrev Room := List Stp
abbrev Plan := List Room
def eS (p : Stp) : T := .tup [.str p.1, .str p.2.1, .str p.2.2.1, .int p.2.2.2]
def eK (k : K3) : T := .tup [.str k.1, .str k.2.1, .str k.2.2]
def eRoom (r : Room) : T := .lst (r.map eS)
def ePlan (p : Plan) : T := .lst (p.map eRoom)
def dS (p : Stp) : PyData := .tuple [.str p.1, .str p.2.1, .str p.2.2.1, .int p.2.2.2]
def dK (k : K3) : PyData := .tuple [.str k.1, .str k.2.1, .str k.2.2]
def dRoom (r : Room) : PyData := .list (r.map dS)
theorem eS_py (p : Stp) : (eS p).py = some (dS p) := by simp [eS, dS, T.py, T.pys]
theorem eK_py (p : K3) : (eK p).py = some (dK p) := by simp [eK, dK, T.py, T.pys]
theorem eRoom_py (r : Room) : (eRoom r).py = some (dRoom r) := by simp [eRoom, dRoom, T.py, pys_map eS_py]
theorem lstK_py (r : List K3) : (T.lst (r.map eK)).py = some (.list (r.map dK)) := by simp [T.py, pys_map eK_py]
/-! texts that may be compared -/
def okT (x : Str) : Prop := PyData.strOk x = true
def okK (k : K3) : Prop := okT k.1 ∧ okT k.2.1 ∧ okT k.2.2
def okS (s : Stp) : Prop := okK (kyOf s)
theorem all_lay {α : Type} {d : α → PyData} : ∀ {xs : List α}, (∀ x ∈ xs, (d x).canLay0 = true) → PyData.canLayAll0 (xs.map d) = true
  | [], _ => by simp [PyData.canLayAll0]
  | x :: xs, h => by
    rw [List.map_cons, PyData.canLayAll0, h x List.mem_cons_self, all_lay fun y hy => h y (List.mem_cons_of_mem _ hy)]; rfl
theorem all_depth {α : Type} {d : α → PyData} {n : Nat} : ∀ {xs : List α}, (∀ x ∈ xs, (d x).depth ≤ n) → PyData.depthAll (xs.map d) ≤ n
  | [], _ => by simp [PyData.depthAll]
  | x :: xs, h => by
    rw [List.map_cons, PyData.depthAll]
    exact Nat.max_le.mpr ⟨h x List.mem_cons_self, all_depth fun y hy => h y (List.mem_cons_of_mem _ hy)⟩
theorem dS_depth (s : Stp) : (dS s).depth = 1 := by simp [dS, PyData.depth, PyData.depthAll]
theorem dK_depth (s : K3) : (dK s).depth = 1 := by simp [dK, PyData.depth, PyData.depthAll]
theorem dS_lay {s : Stp} (h : okS s) : (dS s).canLay0 = true := by
  obtain ⟨h1, h2, h3⟩ := h
  unfold okT at h1 h2 h3
  simp only [kyOf] at h1 h2 h3
  simp [dS, PyData.canLay0, PyData.canLayAll0, h1, h2, h3]
theorem dK_lay {s : K3} (h : okK s) : (dK s).canLay0 = true := by
  obtain ⟨h1, h2, h3⟩ := h
  unfold okT at h1 h2 h3
  simp [dK, PyData.canLay0, PyData.canLayAll0, h1, h2, h3]
theorem shaped_of {d : PyData} (h : d.canLay0 = true) (hd : d.depth ≤ 64) : SeqAt.shaped d = true := by
  unfold SeqAt.shaped; rw [h, decide_eq_true hd]; rfl
theorem dK_shaped {s : K3} (h : okK s) : SeqAt.shaped (dK s) = true := shaped_of (dK_lay h) (by rw [dK_depth]; decide)
theorem dRoom_lay {r : Room} (h : ∀ s ∈ r, okS s) : (dRoom r).canLay0 = true := by
  unfold dRoom; rw [PyData.canLay0]; exact all_lay fun s hs => dS_lay (h s hs)
theorem dRoom_depth (r : Room) : (dRoom r).depth ≤ 2 := by
  unfold dRoom; rw [PyData.depth]
  have := all_depth (d := dS) (n := 1) (xs := r) fun x _ => by rw [dS_depth]; decide
  omega
theorem lstK_shaped {r : List K3} (h : ∀ s ∈ r, okK s) : SeqAt.shaped (.list (r.map dK)) = true := by
  refine shaped_of ?_ ?_
  · rw [PyData.canLay0]; exact all_lay fun s hs => dK_lay (h s hs)
  · rw [PyData.depth]
    have := all_depth (d := dK) (n := 1) (xs := r) fun x _ => by rw [dK_depth]; decide
    omega
theorem beq_str (a b : Str) : (a == b) = decide (a = b) := by
  by_cases h : a = b
  · subst h; simp
  · rw [decide_eq_false h]; exact beq_eq_false_iff_ne.mpr h
theorem dK_eqv (a b : K3) : PyData.eqv (dK a) (dK b) = decide (a = b) := by
  obtain ⟨a1, a2, a3⟩ := a
  obtain ⟨b1, b2, b3⟩ := b
  simp only [dK, PyData.eqv, PyData.eqvAll, Bool.and_true, beq_str]
  by_cases h1 : a1 = b1 <;> by_cases h2 : a2 = b2 <;> by_cases h3 : a3 = b3 <;> simp [h1, h2, h3]
theorem eqvAll_map {α : Type} [DecidableEq α] {d : α → PyData} (h : ∀ a b, PyData.eqv (d a) (d b) = decide (a = b)) : ∀ xs ys : List α, PyData.eqvAll (xs.map d) (ys.map d) = decide (xs = ys)
  | [], [] => by simp [PyData.eqvAll]
  | [], y :: ys => by simp [PyData.eqvAll]
  | x :: xs, [] => by simp [PyData.eqvAll]
  | x :: xs, y :: ys => by
    rw [List.map_cons, List.map_cons, PyData.eqvAll, h, eqvAll_map h xs ys]
    by_cases h1 : x = y <;> by_cases h2 : xs = ys <;> simp [h1, h2]
theorem dS_eqv (a b : Stp) : PyData.eqv (dS a) (dS b) = decide (a = b) := by
  obtain ⟨a1, a2, a3, a4⟩ := a
  obtain ⟨b1, b2, b3, b4⟩ := b
  have e4 : (a4 == b4) = decide (a4 = b4) := by
    by_cases h : a4 = b4
    · subst h; simp
    · rw [decide_eq_false h]; exact beq_eq_false_iff_ne.mpr h
  simp only [dS, PyData.eqv, PyData.eqvAll, Bool.and_true, beq_str, e4]
  by_cases h1 : a1 = b1 <;> by_cases h2 : a2 = b2 <;> by_cases h3 : a3 = b3 <;> by_cases h4 : a4 = b4 <;> simp [h1, h2, h3, h4]
theorem dRoom_eqv (a b : Room) : PyData.eqv (dRoom a) (dRoom b) = decide (a = b) := by
  unfold dRoom; rw [PyData.eqv]; exact eqvAll_map dS_eqv a b
theorem lstK_eqv (a b : List K3) : PyData.eqv (.list (a.map dK)) (.list (b.map dK)) = decide (a = b) := by
  rw [PyData.eqv]; exact eqvAll_map dK_eqv a b
/-- the keys of steps in dicts -/
def k3e : KeyEnc K3 where
  ek := eK
  en := fun k => .tup [.text k.1, .text k.2.1, .text k.2.2]
  nk := fun k => by simp [eK, T.nk, T.nks]
  inj := fun a b h => by
    injection h with h
    injection h with h1 h
    injection h with h2 h
    injection h with h3 _
    injection h1 with h1; injection h2 with h2; injection h3 with h3
    exact Prod.ext h1 (Prod.ext h2 h3)
  depth := fun a => by simp [NestedKey.depth, NestedKey.depthAll]
  tup := fun a => ⟨_, rfl⟩
/-! names -/
def isLetter (n : Nat) : Prop := 97 ≤ n ∧ n ≤ 122
def isNameL (x : List Nat) : Prop := 1 ≤ x.length ∧ x.length ≤ 8 ∧ ∀ n ∈ x, isLetter n
def IsName (x : Str) : Prop := isNameL x.cps.toList
theorem IsName.ok {x : Str} (h : IsName x) : okT x := by
  unfold okT PyData.strOk
  rw [Array.all_eq_true_iff_forall_mem]
  intro n hn
  have := h.2.2 n (by simpa using hn)
  unfold isLetter at this
  simp; omega
end DL

namespace K
open PySem L2 DL
local macro_rules | `(tactic| walk_at "dl") => `(tactic| with_reducible first
  | refine es_if ?_ | refine es_append ?_ | refine es_sub ?_ | refine es_par3 ?_ | refine es_parD ?_ | refine es_asg ?_ | refine es_ret ?_ | refine es_retN ?_ | refine es_next ?_ | refine es_drop ?_ | refine es_break ?_ | refine es_cont ?_
  | refine et_val ?_ | refine et_B ?_ | refine et_not ?_ | refine et_and ?_ | refine et_or ?_ | refine et_yes ?_
  | refine ev_op ?_ | refine ev_un ?_ | refine ev_cb ?_ | refine ev_tup ?_ | refine ev_lst ?_ | refine ev_ifx ?_ | refine ev_andV ?_ | refine ev_orV ?_ | refine ev_notV ?_ | refine ev_sl ?_
  | refine ea_cons ?_ | refine ea_nil ?_ | refine ev_int ?_ | refine ev_str ?_ | refine ev_bl ?_ | refine ev_non ?_ | refine eo_none ?_ | refine eo_some ?_
  | refine gts_cons ?_ | refine gts_nil ?_
  | refine o2_addI ?_ | refine o2_ltI ?_ | refine o2_leI ?_ | refine o2_gtI ?_ | refine o2_geI ?_ | refine o2_ltS ?_ | refine o2_leS ?_ | refine o2_gtS ?_ | refine o2_sub ?_
  | refine oa_intI ?_ | refine oa_intB ?_ | refine oa_abs ?_ | refine oa_two ?_ | refine ulen_R ?_ | refine ulen_T ?_ | refine ulen_L LstV.d ?_
  | (refine ⟨_, Pu.d, ?_⟩) | (refine ⟨_, Pu.ptr, ?_⟩) | (refine ⟨_, Pu.fr, ?_⟩))
local macro_rules | `(tactic| walk_at "dv") => `(tactic| first
  | refine ev_var (by rfl) ?_ | refine ev_ptr (.inl (by rfl)) ?_ | refine ev_ptr (.inr (.inl (by rfl))) ?_ | refine ev_ptr (.inr (.inr (by rfl))) ?_
  | refine uix_L (LstV.o ⟨0, .inr (by rfl)⟩) (by rfl) ?_ | refine uix_L LstV.d (by rfl) ?_ | refine uix_T (by rfl) ?_
  | refine gt_tup (by rfl) ?_ | refine gt_name (by first | exact all_in | simp) ?_ | refine ⟨_, rfl, ?_⟩)
local macro_rules | `(tactic| walk_at "e") => `(tactic| repeat (first | walk_at "dl" | walk_at "dv"))
local macro_rules | `(tactic| walk_at "d") => `(tactic| repeat (first | with_reducible refine es_seq ?_ | walk_at "dl" | walk_at "dv"))
def topS (i : Nat) : Stmt := PySem.Challenge.pw_emptyfirst_k15_short_talks_tried.main.body.getD i (.Pass ⟨0, 0, 0, 0⟩)
structure TXF (mg : Str → Option Value) : Prop where
  n_len : mg "len" = none
  n_int : mg "int" = none
  n_bool : mg "bool" = none
  n_abs : mg "abs" = none
  n_max : mg "max" = none
  n_min : mg "min" = none
  n_all : mg "all" = none
  n_range : mg "range" = none
  n_isinstance : mg "isinstance" = none
  n_enumerate : mg "enumerate" = none
  n_sorted : mg "sorted" = none
  n_list : mg "list" = none
  n_tuple : mg "tuple" = none
  n_repr : mg "repr" = none
section
variable {P : Program} {w : World} {K : PySem.W.Frag} {mg : Str → Option Value} {base : Heap}
def mint3 (a b n : Int) : List T := [.int a, .int b, .int n]
/-- the state of a mint behind at most n draws -/
def Mint (n : Nat) (us : OW) : Prop := ∃ a b m : Int, us = .lst (mint3 a b m) ∧ 0 ≤ b ∧ b < 2 ^ 62 ∧ 0 ≤ m ∧ m ≤ n
def SMint : List T → (RT → Prop) → Prop := fun ts P => ∃ (ns : List Int) (i : Nat), ns.length ≤ 63 ∧ i < 1000 ∧ ts = [.rl (ns.map T.int), .int i] ∧ ∀ us, Mint 0 us → P (.new us)
abbrev s_law_mint : Stmt := topS 36
abbrev N_law_mint : List Str := ["script", "place", "figure", "start"]
theorem sc_law_mint : FnScope N_law_mint ["script", "place"] (defScope s_law_mint) := ⟨rfl, rfl, rfl, by decide +kernel, rfl, by decide +kernel, by decide +kernel⟩

theorem ok_mint {f : Addr} {fd : FuncData} (Fn : Fun K "_law_mint" "_law_mint" s_law_mint f fd) (TX : TXF mg) : FnOk P w K mg base CX0 1 f fd ["script", "place"] (spP ⟨P, w, K⟩ SMint) := by
  refine Fn.ok sc_law_mint (fun vs H Q E h => ?_) (fun cdv A outer s H vs Q E hr h => ?_)
  · obtain ⟨F, ts, _, hd, P, ⟨_, _, _, _, rfl, _⟩, _⟩ := h
    rw [hd.length]; rfl
  · obtain ⟨F, ts, fh, hd, PP, ⟨ns, i, hn, hi, rfl, hk⟩, q⟩ := h
    have hu : _ := hr.units
    refine ⟨_, (pss_cons (ps_set (i := 2) sc_law_mint.nd rfl (Or.inl rfl) pe_int)
    (pss_cons (ps_if (pt_cmpR op_uLt (pv 1) (pe_callB (call_lenB ⟨P, w, K⟩ rfl hu) (by rfl) TX.n_len (by decide +kernel) (pa_cons (pv 0) pa_nil)) (nomark _)) (pss_one (ps_set (i := 2) sc_law_mint.nd rfl (Or.inl rfl) (pe_ix (ix_B ⟨P, w, K⟩ rfl hu) (pv 0) (pv 1) (fun _ _ => rfl)))) pss_nil)
    (pss_cons (ps_set (i := 3) sc_law_mint.nd rfl (Or.inl rfl) (pe_op op_mod (pe_callTy (call_int1') (by rfl) TX.n_int (by decide +kernel) (pa_cons (pe_op (op_addB ⟨P, w, K⟩ rfl) (pe_op op_uMul (pe_callB (call_abs') (by rfl) TX.n_abs (by decide +kernel) (pa_cons (pv 2) pa_nil)) pe_int) (pe_callTy (call_int1') (by rfl) TX.n_int (by decide +kernel) (pa_cons (pe_cmpR op_uLt (pv 2) pe_int (nomark _)) pa_nil))) pa_nil)) pe_int))
    (pss_one (ps_ret (pe_lst (pa_cons (pe_op op_uMul (pv 2) (pe_callTy (call_int1') (by rfl) TX.n_int (by decide +kernel) (pa_cons (pe_cmpR op_uGe (pv 2) (pe_op op_pow pe_int pe_int) (nomark _)) pa_nil))) (pa_cons (pe_op (op_addB ⟨P, w, K⟩ rfl) (pv 3) (pe_op op_uMul pe_int (pv 1))) (pa_cons pe_int pa_nil))))))))), ?_⟩
    refine run_P (n := 2) fh hd rfl q ?_
    dsimp only [cxOf]
    refine es_seq ?_
    walk_at "e"
    refine es_seqJ (fun δ => ∃ fig : Int, δ = [.d (.rl (ns.map .int)), .d (.int i), .d (.int fig), .no]) ?_ ?_
    · walk_at "e"
      refine ite2 (fun h => ?_) (fun h => ?_)
      · walk_at "e"
        have hi' : i < ns.length := by simpa using h
        refine uix_R (t := .int ns[i]) (atI_nat (by simp [hi'])) ?_
        walk_at "e"
        exact ⟨_, rfl⟩
      · walk_at "e"
        exact ⟨_, rfl⟩
    · rintro δ ⟨fig, rfl⟩
      walk_at "d"
      refine o2_mulI (.inr ⟨by decide, by decide⟩) ?_
      walk_at "d"
      refine o2_mod (by decide) ?_
      walk_at "d"
      refine o2_pow ⟨by decide, by decide, by decide⟩ ?_
      walk_at "d"
      refine o2_mulI (.inr ?_) ?_
      · split <;> exact ⟨by decide, by decide⟩
      walk_at "d"
      refine o2_mulI (.inl ⟨by decide, by decide⟩) ?_
      walk_at "d"
      refine ⟨[.int _, .int _, .int _], rfl, (show 3 ≤ sizeLine by decide), fun p => ?_⟩
      refine hk _ ⟨_, _, _, rfl, ?_, ?_, by decide, by decide⟩
      all_goals (generalize hb : ((if fig < 0 then -fig else fig) * 2 + if decide (fig < 0) = true then (1 : Int) else 0) = z; have z1 := Int.emod_nonneg z (show (2305843009213693951 : Int) ≠ 0 by decide); have z2 := Int.emod_lt_of_pos z (show (0 : Int) < 2305843009213693951 by decide); omega)
end
end K

namespace K
open PySem L2 DL
local macro_rules | `(tactic| walk_at "dl") => `(tactic| with_reducible first
  | refine es_if ?_ | refine es_append ?_ | refine es_sub ?_ | refine es_par3 ?_ | refine es_parD ?_ | refine es_asg ?_ | refine es_ret ?_ | refine es_retN ?_ | refine es_next ?_ | refine es_drop ?_ | refine es_break ?_ | refine es_cont ?_
  | refine et_val ?_ | refine et_B ?_ | refine et_not ?_ | refine et_and ?_ | refine et_or ?_ | refine et_yes ?_
  | refine ev_op ?_ | refine ev_un ?_ | refine ev_cb ?_ | refine ev_tup ?_ | refine ev_lst ?_ | refine ev_ifx ?_ | refine ev_andV ?_ | refine ev_orV ?_ | refine ev_notV ?_ | refine ev_sl ?_
  | refine ea_cons ?_ | refine ea_nil ?_ | refine ev_int ?_ | refine ev_str ?_ | refine ev_bl ?_ | refine ev_non ?_ | refine eo_none ?_ | refine eo_some ?_
  | refine gts_cons ?_ | refine gts_nil ?_
  | refine o2_addI ?_ | refine o2_ltI ?_ | refine o2_leI ?_ | refine o2_gtI ?_ | refine o2_geI ?_ | refine o2_ltS ?_ | refine o2_leS ?_ | refine o2_gtS ?_ | refine o2_sub ?_
  | refine oa_intI ?_ | refine oa_intB ?_ | refine oa_abs ?_ | refine oa_two ?_ | refine ulen_R ?_ | refine ulen_T ?_ | refine ulen_L LstV.d ?_
  | (refine ⟨_, Pu.d, ?_⟩) | (refine ⟨_, Pu.ptr, ?_⟩) | (refine ⟨_, Pu.fr, ?_⟩))
local macro_rules | `(tactic| walk_at "dv") => `(tactic| first
  | refine ev_var (by rfl) ?_ | refine ev_ptr (.inl (by rfl)) ?_ | refine ev_ptr (.inr (.inl (by rfl))) ?_ | refine ev_ptr (.inr (.inr (by rfl))) ?_
  | refine uix_L (LstV.o ⟨0, .inr (by rfl)⟩) (by rfl) ?_ | refine uix_L LstV.d (by rfl) ?_ | refine uix_T (by rfl) ?_
  | refine gt_tup (by rfl) ?_ | refine gt_name (by first | exact all_in | simp) ?_ | refine ⟨_, rfl, ?_⟩)
local macro_rules | `(tactic| walk_at "e") => `(tactic| repeat (first | walk_at "dl" | walk_at "dv"))
local macro_rules | `(tactic| walk_at "d") => `(tactic| repeat (first | with_reducible refine es_seq ?_ | walk_at "dl" | walk_at "dv"))
section
variable {P : Program} {w : World} {K : PySem.W.Frag} {mg : Str → Option Value} {base : Heap}
abbrev s_is_index : Stmt := topS 27
abbrev N_is_index : List Str := ["value", "count"]
theorem sc_is_index : FnScope N_is_index ["value", "count"] (defScope s_is_index) := ⟨rfl, rfl, rfl, by decide +kernel, rfl, by decide +kernel, by decide +kernel⟩

def SIndex : List T → (RT → Prop) → Prop := fun ts P => ∃ i n : Int, ts = [.int i, .int n] ∧ P (.d (.bl (decide (0 ≤ i ∧ i < n))))
theorem ok_index {f : Addr} {fd : FuncData} (Fn : Fun K "is_index" "is_index" s_is_index f fd) (TX : TXF mg) : FnOk P w K mg base CX0 1 f fd ["value", "count"] (spP ⟨P, w, K⟩ SIndex) := by
  refine Fn.ok sc_is_index (fun vs H Q E h => ?_) (fun cdv A outer s H vs Q E hr h => ?_)
  · obtain ⟨F, ts, _, hd, P, ⟨_, _, rfl, _⟩, _⟩ := h
    rw [hd.length]; rfl
  · obtain ⟨F, ts, fh, hd, PP, ⟨i, n, rfl, hk⟩, q⟩ := h
    have hu := hr.units
    refine ⟨_, (pss_one (ps_ret (pe_and (pe_callB (call_isiB ⟨P, w, K⟩ rfl) (by rfl) TX.n_isinstance (by decide +kernel) (pa_cons (pv 0) (pa_cons (pe_bltn (v := .ty "int") (by rfl) TX.n_int (by decide +kernel) rfl) pa_nil))) (pe_and (pe_not (pe_callB (call_isiB ⟨P, w, K⟩ rfl) (by rfl) TX.n_isinstance (by decide +kernel) (pa_cons (pv 0) (pa_cons (pe_bltn (v := .ty "bool") (by rfl) TX.n_bool (by decide +kernel) rfl) pa_nil)))) (pe_one (pe_chain op_uLe op_uLt pe_int (pv 0) (pv 1))))))), ?_⟩
    refine run_P (n := 0) fh hd rfl q ?_
    dsimp only [cxOf]
    walk_at "d"
    refine ev_c (t := .raw (.ty "int")) rfl ?_
    walk_at "d"
    refine oa_isi (tv := .type "int") (b := true) (.ty _) (fun F H v _ h => ?_) (by rfl) ?_
    · obtain rfl := h.int_
      exact .base (.int _)
    walk_at "d"
    refine ite2 (fun _ => ?_) (fun h => nomatch h)
    walk_at "d"
    refine ev_c (t := .raw (.ty "bool")) rfl ?_
    walk_at "d"
    refine oa_isi (tv := .type "int") (b := false) (.ty _) (fun F H v _ h => ?_) (by rfl) ?_
    · obtain rfl := h.int_
      exact .base (.int _)
    walk_at "d"
    refine ite2 (fun _ => ?_) (fun h => nomatch h)
    refine ev_chainP ?_
    walk_at "d"
    refine ⟨_, fun _ k => o2_leI k, ite2 (fun h1 => ?_) (fun h1 => ?_)⟩
    · walk_at "d"
      have e : decide (i < n) = decide (0 ≤ i ∧ i < n) := by
        have : 0 ≤ i := by simpa using h1
        simp [this]
      show PP (.d (.bl (decide (i < n))))
      rw [e]; exact hk
    · have e : false = decide (0 ≤ i ∧ i < n) := by
        have : ¬ 0 ≤ i := by simpa using h1
        simp [this]
      show PP (.d (.bl false))
      rw [e]; exact hk
abbrev s_is_name : Stmt := topS 16
abbrev N_is_name : List Str := ["text", "letter"]
theorem sc_is_name : FnScope N_is_name ["text"] (defScope s_is_name) := ⟨rfl, rfl, rfl, by decide +kernel, rfl, by decide +kernel, by decide +kernel⟩

def isLet (n : Nat) : Bool := decide (97 ≤ n) && decide (n ≤ 122)
theorem lt1 (a b : Nat) : decide ([a] < [b]) = decide (a < b) := by simp [List.cons_lt_cons_iff]
theorem let_yes {n : Nat} (h : (!decide ((⟨#[n]⟩ : Str).cps.toList < (Str.ofString "a").cps.toList)) = true) : (!decide ((Str.ofString "z").cps.toList < (⟨#[n]⟩ : Str).cps.toList)) = isLet n := by
  rw [show (Str.ofString "a").cps.toList = [97] by rfl, show (⟨#[n]⟩ : Str).cps.toList = [n] by rfl, lt1] at h
  rw [show (Str.ofString "z").cps.toList = [122] by rfl, show (⟨#[n]⟩ : Str).cps.toList = [n] by rfl, lt1]
  unfold isLet
  simp at h
  simp [h]
  by_cases q : n ≤ 122 <;> simp [q] <;> omega
theorem let_no {n : Nat} (h : ¬ (!decide ((⟨#[n]⟩ : Str).cps.toList < (Str.ofString "a").cps.toList)) = true) : false = isLet n := by
  rw [show (Str.ofString "a").cps.toList = [97] by rfl, show (⟨#[n]⟩ : Str).cps.toList = [n] by rfl, lt1] at h
  unfold isLet
  simp at h
  simp; omega
def SName : List T → (RT → Prop) → Prop := fun ts P => ∃ x : Str, x.length ≤ sizeLine ∧ ts = [.str x] ∧ ∀ b : Bool, (b = true ↔ IsName x) → P (.d (.bl b))
theorem ok_name {f : Addr} {fd : FuncData} (Fn : Fun K "is_name" "is_name" s_is_name f fd) (TX : TXF mg) {uL : Value} (G_LONGEST_NAME : mg "LONGEST_NAME" = some uL ∧ RelV (.int 8) uL) : FnOk P w K mg base CX0 1 f fd ["text"] (spP ⟨P, w, K⟩ SName) := by
  refine Fn.ok sc_is_name (fun vs H Q E h => ?_) (fun cdv A outer s H vs Q E hr h => ?_)
  · obtain ⟨F, ts, _, hd, P, ⟨_, _, rfl, _⟩, _⟩ := h
    rw [hd.length]; rfl
  · obtain ⟨F, ts, fh, hd, PP, ⟨x, hz, rfl, hk⟩, q⟩ := h
    have hu := hr.units
    refine ⟨_, (pss_one (ps_ret (pe_and (pe_chain op_uLe op_uLe pe_int (pe_callB (call_lenB ⟨P, w, K⟩ rfl hu) (by rfl) TX.n_len (by decide +kernel) (pa_cons (pv 0) pa_nil)) (pe_glob (by rfl) G_LONGEST_NAME.1 G_LONGEST_NAME.2)) (pe_one (pe_callB (call_allB ⟨P, w, K⟩ rfl rfl) (by rfl) TX.n_all (by decide +kernel) (pa_cons (pe_lc (own := [("letter", 1)]) (by rfl) sc_is_name.nd (pi_str (pv 0)) (blkOk_by (N := N_is_name) (sc := defScope s_is_name) (by decide +kernel)) (fun _ _ _ _ _ => (pg_name (i := 1) sc_is_name.nd rfl (Or.inl rfl))) (fun _ _ _ _ _ => pts_nil) (fun _ _ _ _ _ => (pe_chain op_uLe op_uLe pe_str (pv 1) pe_str))) pa_nil)))))), ?_⟩
    refine run_P (n := 1) fh hd rfl q ?_
    dsimp only [cxOf]
    have hlen : x.length = x.cps.toList.length := by simp [Str.length]
    walk_at "d"
    refine ev_chainP ?_
    walk_at "d"
    refine ulen_S hz ?_
    walk_at "d"
    refine ⟨_, fun _ k => o2_leI k, ite2 (fun h1 => ?_) (fun h1 => ?_)⟩
    · walk_at "d"
      refine ite2 (fun h2 => ?_) (fun h2 => ?_)
      · walk_at "d"
        refine ev_lcI (ei_S ?_)
        walk_at "d"
        refine ⟨by rw [List.length_map, ← hlen]; exact hz, fun i acc δ => acc = ((x.cps.toList.take i).map isLet).map T.bl ∧ δ = [.d (.str x), .no], ⟨by simp, rfl⟩, fun _ _ _ _ => trivial, ?_, ?_⟩
        · rintro i t acc δ ht _ ⟨rfl, rfl⟩
          rw [List.getElem?_map] at ht
          obtain ⟨n, hn, rfl⟩ := Option.map_eq_some_iff.mp ht
          walk_at "d"
          refine ite2 (fun _ => ?_) (fun h => nomatch h)
          refine ev_chainP ?_
          walk_at "d"
          have key : ∀ b : Bool, b = isLet n → (((x.cps.toList.take i).map isLet).map T.bl) ++ [T.bl b] = ((x.cps.toList.take (i + 1)).map isLet).map T.bl := fun b e => by
            rw [e, List.take_add_one, hn]; simp
          refine ⟨_, fun _ k => o2_leS k, ite2 (fun h3 => ?_) (fun h3 => ?_)⟩
          · walk_at "d"
            refine ⟨key _ ?_, rfl⟩
            exact let_yes h3
          · refine ⟨_, Pu.d, key _ ?_, rfl⟩
            exact let_no h3
        · rintro acc δ _ ⟨rfl, rfl⟩ p
          walk_at "d"
          refine oa_all LstV.d ?_
          refine hk _ ?_
          have h1 : 1 ≤ (x.length : Int) := by simpa using h1
          have h2 : (x.length : Int) ≤ 8 := by simpa using h2
          rw [List.all_map, List.length_map, List.take_length, List.all_eq_true]
          refine ⟨fun h => ⟨by omega, by omega, fun n hn => ?_⟩, fun h n hn => ?_⟩
          · have := h n hn
            simpa [isLet, isLetter] using this
          · have := h.2.2 n hn
            simpa [isLet, isLetter] using this
      · refine hk false ⟨fun h => absurd h (by decide), fun h => ?_⟩
        have h2 : ¬ (x.length : Int) ≤ 8 := by simpa using h2
        have := h.2.1
        omega
    · refine ⟨false, rfl, ite2 (fun h => nomatch h) (fun _ => ?_)⟩
      refine hk false ⟨fun h => absurd h (by decide), fun h => ?_⟩
      have h1 : ¬ 1 ≤ (x.length : Int) := by simpa using h1
      have := h.1
      omega
abbrev s_check_step : Stmt := topS 26
abbrev N_check_step : List Str := ["step", "count", "sign", "line", "word", "room", "name"]
theorem sc_check_step : FnScope N_check_step ["step", "count"] (defScope s_check_step) := ⟨rfl, rfl, rfl, by decide +kernel, rfl, by decide +kernel, by decide +kernel⟩

/-- a step that may stand in a service of n rooms -/
def GoodStep (n : Int) (s : Stp) : Prop := (s.1 = "!" ∨ s.1 = "?") ∧ IsName s.2.1 ∧ IsName s.2.2.1 ∧ 0 ≤ s.2.2.2 ∧ s.2.2.2 < n
def SCheckStep : List T → (RT → Prop) → Prop := fun ts P => ∃ (s : Stp) (n : Int), GoodStep n s ∧ ts = [eS s, .int n] ∧ P (.d .non)
theorem ok_check_step {f tS : Addr} {fd : FuncData} (Fn : Fun K "check_step" "check_step" s_check_step f fd) (TX : TXF mg) (C_is_index : Cal P w K mg base CX0 "is_index" 1 ["value", "count"] (spP ⟨P, w, K⟩ SIndex)) (C_is_name : Cal P w K mg base CX0 "is_name" 1 ["text"] (spP ⟨P, w, K⟩ SName))
    (G_SIGNS : mg "SIGNS" = some (.ref tS) ∧ RelV (.ref tS) (.ref tS)) (hS : ∀ F, DV ⟨P, w, K⟩ F (.ref tS) (.tup [.str "!", .str "?"])) : FnOk P w K mg base CX0 2 f fd ["step", "count"] (spP ⟨P, w, K⟩ SCheckStep) := by
  refine Fn.ok sc_check_step (fun vs H Q E h => ?_) (fun cdv A outer s H vs Q E hr h => ?_)
  · obtain ⟨F, ts, _, hd, P, ⟨_, _, _, rfl, _⟩, _⟩ := h
    rw [hd.length]; rfl
  · obtain ⟨F, ts, fh, hd, PP, ⟨st, n, hg, rfl, hk⟩, q⟩ := h
    have hu := hr.units
    refine ⟨_, (pss_cons (ps_asg (pv 0) (pg_tupB ⟨P, w, K⟩ rfl 4 rfl (pgs_cons (pg_name (i := 2) sc_check_step.nd rfl (Or.inl rfl)) (pgs_cons (pg_name (i := 3) sc_check_step.nd rfl (Or.inl rfl)) (pgs_cons (pg_name (i := 4) sc_check_step.nd rfl (Or.inl rfl)) (pgs_cons (pg_name (i := 5) sc_check_step.nd rfl (Or.inl rfl)) pgs_nil))))))
    (pss_cons (ps_if (PW.pt (pw_or (pt_cmpR (op_notInB ⟨P, w, K⟩ rfl hu) (pv 2) (pe_glob (by rfl) G_SIGNS.1 G_SIGNS.2) (by with_unfolding_all rfl)) (pw_or1 (pt_not (pt_val (pe_call C_is_index.ok (hr.mono (by decide)) (by rfl) C_is_index.mg C_is_index.kp C_is_index.bd .nil pass0 (pa_cons (pv 5) (pa_cons (pv 1) pa_nil)))))))) (pss_one DL.ps_never) pss_nil)
    (pss_one (ps_for PassesOwn.never rfl (pi_tupB ⟨P, w, K⟩ rfl (pe_tup (pa_cons (pv 3) (pa_cons (pv 4) pa_nil)))) (pg_name (i := 6) sc_check_step.nd rfl (Or.inl rfl)) (pss_one (ps_if (pt_not (pt_val (pe_call C_is_name.ok (hr.mono (by decide)) (by rfl) C_is_name.mg C_is_name.kp C_is_name.bd .nil pass0 (pa_cons (pv 6) pa_nil)))) (pss_one DL.ps_never) pss_nil)))))), ?_⟩
    refine run_P (n := 5) fh hd rfl q ?_
    dsimp only [cxOf]
    obtain ⟨s1, s2, s3, s4⟩ := st
    obtain ⟨g1, g2, g3, g4, g5⟩ := hg
    unfold eS
    dsimp only at g1 g2 g3 g4 g5 ⊢
    walk_at "d"
    refine ev_k hS ?_
    walk_at "d"
    have hsg : s1 ∈ (["!", "?"] : List Str) := by rcases g1 with h | h <;> subst h <;> decide
    refine uni_ST (zs := ["!", "?"]) ?_
    rw [decide_eq_true hsg]
    refine ⟨_, rfl, ite2 (fun h => nomatch h) (fun _ => ?_)⟩
    walk_at "d"
    refine ev_callPn ?_
    walk_at "d"
    refine ⟨[.int s4, .int n], rfl, s4, n, rfl, ?_⟩
    rw [decide_eq_true (show 0 ≤ s4 ∧ s4 < n from ⟨g4, g5⟩)]
    refine ⟨_, rfl, ite2 (fun h => nomatch h) (fun _ => ?_)⟩
    walk_at "d"
    refine es_forI (ei_T ?_)
    walk_at "d"
    refine ⟨[.str s2, .str s3], rfl, (show 2 ≤ sizeLine by decide), [.str s2, .str s3], rfl, fun i δ => ∃ x, δ = [.d (.tup [.str s1, .str s2, .str s3, .int s4]), .d (.int n), .d (.str s1), .d (.str s2), .d (.str s3), .d (.int s4), x], ⟨_, rfl⟩, fun _ _ _ => trivial, ?_, ?_⟩
    · rintro i t δ ht ⟨x, rfl⟩
      have ht : ∃ y, t = .str y ∧ IsName y := by
        match i, ht with
        | 0, ht => cases ht; exact ⟨_, rfl, g2⟩
        | 1, ht => cases ht; exact ⟨_, rfl, g3⟩
      obtain ⟨y, rfl, hy⟩ := ht
      walk_at "d"
      refine ev_callPn ?_
      walk_at "d"
      refine ⟨[.str y], rfl, y, ?_, rfl, fun b hb => ?_⟩
      · have := hy.2.1
        have e : y.length = y.cps.toList.length := by simp [Str.length]
        rw [e]; exact Nat.le_trans this (by decide)
      · rw [hb.mpr hy]
        refine ⟨_, rfl, ite2 (fun h => nomatch h) (fun _ => ?_)⟩
        walk_at "d"
        exact ⟨_, rfl⟩
    · rintro δ ⟨x, rfl⟩
      exact hk
end
end K

namespace K
open PySem L2 DL
local macro_rules | `(tactic| walk_at "dl") => `(tactic| with_reducible first
  | refine es_if ?_ | refine es_append ?_ | refine es_sub ?_ | refine es_par3 ?_ | refine es_parD ?_ | refine es_asg ?_ | refine es_ret ?_ | refine es_retN ?_ | refine es_next ?_ | refine es_drop ?_ | refine es_break ?_ | refine es_cont ?_
  | refine et_val ?_ | refine et_B ?_ | refine et_not ?_ | refine et_and ?_ | refine et_or ?_ | refine et_yes ?_
  | refine ev_op ?_ | refine ev_un ?_ | refine ev_cb ?_ | refine ev_tup ?_ | refine ev_lst ?_ | refine ev_ifx ?_ | refine ev_andV ?_ | refine ev_orV ?_ | refine ev_notV ?_ | refine ev_sl ?_
  | refine ea_cons ?_ | refine ea_nil ?_ | refine ev_int ?_ | refine ev_str ?_ | refine ev_bl ?_ | refine ev_non ?_ | refine eo_none ?_ | refine eo_some ?_
  | refine gts_cons ?_ | refine gts_nil ?_
  | refine o2_addI ?_ | refine o2_ltI ?_ | refine o2_leI ?_ | refine o2_gtI ?_ | refine o2_geI ?_ | refine o2_ltS ?_ | refine o2_leS ?_ | refine o2_gtS ?_ | refine o2_sub ?_
  | refine oa_intI ?_ | refine oa_intB ?_ | refine oa_abs ?_ | refine oa_two ?_ | refine ulen_R ?_ | refine ulen_T ?_ | refine ulen_L LstV.d ?_
  | (refine ⟨_, Pu.d, ?_⟩) | (refine ⟨_, Pu.ptr, ?_⟩) | (refine ⟨_, Pu.fr, ?_⟩))
local macro_rules | `(tactic| walk_at "dv") => `(tactic| first
  | refine ev_var (by rfl) ?_ | refine ev_ptr (.inl (by rfl)) ?_ | refine ev_ptr (.inr (.inl (by rfl))) ?_ | refine ev_ptr (.inr (.inr (by rfl))) ?_
  | refine uix_L (LstV.o ⟨0, .inr (by rfl)⟩) (by rfl) ?_ | refine uix_L LstV.d (by rfl) ?_ | refine uix_T (by rfl) ?_
  | refine gt_tup (by rfl) ?_ | refine gt_name (by first | exact all_in | simp) ?_ | refine ⟨_, rfl, ?_⟩)
local macro_rules | `(tactic| walk_at "e") => `(tactic| repeat (first | walk_at "dl" | walk_at "dv"))
local macro_rules | `(tactic| walk_at "d") => `(tactic| repeat (first | with_reducible refine es_seq ?_ | walk_at "dl" | walk_at "dv"))
section
variable {P : Program} {w : World} {K : PySem.W.Frag} {mg : Str → Option Value} {base : Heap}
/-- the ways out of a room, as a dict -/
def ways (r : Room) : List (K3 × Int) := r.foldl (fun m s => putM m (kyOf s) (goalOf s)) []
theorem putM_len {α β : Type} [DecidableEq α] (m : List (α × β)) (a : α) (b : β) : (putM m a b).length ≤ m.length + 1 := by
  unfold putM; split
  · rw [List.length_map]; omega
  · simp
theorem fold_len (r : Room) : ∀ m : List (K3 × Int), (r.foldl (fun m s => putM m (kyOf s) (goalOf s)) m).length ≤ m.length + r.length := by
  induction r with
  | nil => intro m; simp
  | cons s r ih =>
    intro m
    rw [List.foldl_cons, List.length_cons]
    have := ih (putM m (kyOf s) (goalOf s))
    have := putM_len m (kyOf s) (goalOf s)
    omega
theorem ways_len (r : Room) : (ways r).length ≤ r.length := by
  have := fold_len r []
  unfold ways; simpa using this
theorem ways_take {r : Room} {i : Nat} {s : Stp} (h : r[i]? = some s) : ways (r.take (i + 1)) = putM (ways (r.take i)) (kyOf s) (goalOf s) := by
  unfold ways; rw [List.take_add_one, h]; simp
abbrev s_next_rooms : Stmt := topS 18
abbrev N_next_rooms : List Str := ["room", "step"]
theorem sc_next_rooms : FnScope N_next_rooms ["room"] (defScope s_next_rooms) := ⟨rfl, rfl, rfl, by decide +kernel, rfl, by decide +kernel, by decide +kernel⟩

def SNext : List T → (RT → Prop) → Prop := fun ts P => ∃ r : Room, r.length < sizeLine ∧ ts = [eRoom r] ∧ P (.new (.N k3e T.int (ways r)))
theorem ok_next_rooms {f : Addr} {fd : FuncData} (Fn : Fun K "next_rooms" "next_rooms" s_next_rooms f fd) (TX : TXF mg) : FnOk P w K mg base CX0 1 f fd ["room"] (spP ⟨P, w, K⟩ SNext) := by
  refine Fn.ok sc_next_rooms (fun vs H Q E h => ?_) (fun cdv A outer s H vs Q E hr h => ?_)
  · obtain ⟨F, ts, _, hd, P, ⟨_, _, rfl, _⟩, _⟩ := h
    rw [hd.length]; rfl
  · obtain ⟨F, ts, fh, hd, PP, ⟨r, hz, rfl, hk⟩, q⟩ := h
    have hu := hr.units
    refine ⟨_, (pss_one (ps_ret (dcg (own := [("step", 1)]) (wayN hu) (by rfl) sc_next_rooms.nd (pi_listB ⟨P, w, K⟩ rfl (pv 0)) (blkOk_by (N := N_next_rooms) (sc := defScope s_next_rooms) (by decide +kernel)) (fun _ _ _ _ _ => (pg_name (i := 1) sc_next_rooms.nd rfl (Or.inl rfl))) (fun _ _ _ _ _ => pts_nil) (fun _ _ _ _ _ => (pe_slice (sl_B ⟨P, w, K⟩ rfl) (pv 1) po_none (po_some pe_int))) (fun _ _ _ _ _ => (pe_ix (ix_B ⟨P, w, K⟩ rfl hu) (pv 1) pe_int (fun _ _ => rfl)))))), ?_⟩
    refine run_P (n := 1) fh hd rfl q ?_
    dsimp only [cxOf]
    walk_at "d"
    refine ev_dcL k3e T.int ?_
    walk_at "d"
    refine ⟨by rw [List.length_map]; omega, fun i m δ => m = ways (r.take i) ∧ δ = [.d (eRoom r), .no], ⟨rfl, rfl⟩, ?_, ?_⟩
    · rintro i t m δ ht ⟨rfl, rfl⟩
      rw [List.getElem?_map] at ht
      obtain ⟨st, hst, rfl⟩ := Option.map_eq_some_iff.mp ht
      walk_at "d"
      refine ite2 (fun _ => ?_) (fun h => nomatch h)
      walk_at "d"
      refine os_T (ts := [.str st.1, .str st.2.1, .str st.2.2.1, .int st.2.2.2]) (show ¬ (HT.sIx 4 0 none = 0 ∧ HT.sIx 4 4 (some 3) = 4) by decide) ?_
      refine ⟨kyOf st, rfl, ?_⟩
      walk_at "d"
      refine ⟨?_, (ways_take hst).symm, rfl⟩
      have := ways_len (r.take i)
      have e2 : (r.take i).length ≤ r.length := by rw [List.length_take]; omega
      omega
    · rintro m δ ⟨rfl, rfl⟩ p
      rw [List.length_map, List.take_length]
      exact hk
theorem getM_none {α β : Type} [DecidableEq α] {m : List (α × β)} {a : α} (h : a ∉ m.map (·.1)) : getM m a = none := by
  induction m with
  | nil => rfl
  | cons p m ih =>
    rw [List.map_cons, List.mem_cons] at h
    unfold getM
    rw [if_neg (fun e => h (.inl e.symm))]
    exact ih fun q => h (.inr q)
theorem fold_nodup : ∀ (r : Room) (m : List (K3 × Int)), (m.map (·.1) ++ r.map kyOf).Nodup → r.foldl (fun m s => putM m (kyOf s) (goalOf s)) m = m ++ r.map fun s => (kyOf s, goalOf s)
  | [], m, _ => by simp
  | s :: r, m, h => by
    rw [List.foldl_cons]
    have hn : kyOf s ∉ m.map (·.1) := by
      intro q
      rw [List.map_cons, List.nodup_append] at h
      exact h.2.2 _ q _ List.mem_cons_self rfl
    have e : putM m (kyOf s) (goalOf s) = m ++ [(kyOf s, goalOf s)] := by unfold putM; rw [getM_none hn]; rfl
    rw [e, fold_nodup r _ (by simpa using h), List.append_assoc]; rfl
theorem ways_nodup {r : Room} (h : (r.map kyOf).Nodup) : ways r = r.map fun s => (kyOf s, goalOf s) := by
  unfold ways; rw [fold_nodup r [] (by simpa using h)]; rfl
theorem enumT_get {ts : List T} {i : Nat} {t : T} (h : (enumT ts)[i]? = some t) : ∃ u, ts[i]? = some u ∧ t = .tup [.int (i : Nat), u] := by
  unfold enumT at h
  rw [List.getElem?_map, List.getElem?_zipIdx] at h
  cases q : ts[i]? with
  | none => rw [q] at h; cases h
  | some u => rw [q] at h; simp at h; exact ⟨u, rfl, h.symm⟩
/-- rooms that make a service -/
def GoodRoom (n : Nat) (r : Room) : Prop := r.length < sizeLine ∧ (∀ s ∈ r, GoodStep n s) ∧ (r.map kyOf).Nodup
def GoodPlan (p : Plan) : Prop := p.length < sizeLine ∧ ∀ r ∈ p, GoodRoom p.length r
abbrev s_check_rooms : Stmt := topS 25
abbrev N_check_rooms : List Str := ["rooms", "steps", "step", "index"]
theorem sc_check_rooms : FnScope N_check_rooms ["rooms"] (defScope s_check_rooms) := ⟨rfl, rfl, rfl, by decide +kernel, rfl, by decide +kernel, by decide +kernel⟩

def SCheckRooms : List T → (RT → Prop) → Prop := fun ts P => ∃ p : Plan, GoodPlan p ∧ ts = [ePlan p] ∧ P (.d .non)
theorem ok_check_rooms {f : Addr} {fd : FuncData} (Fn : Fun K "check_rooms" "check_rooms" s_check_rooms f fd) (TX : TXF mg) (C_check_step : Cal P w K mg base CX0 "check_step" 2 ["step", "count"] (spP ⟨P, w, K⟩ SCheckStep)) (C_next_rooms : Cal P w K mg base CX0 "next_rooms" 1 ["room"] (spP ⟨P, w, K⟩ SNext)) : FnOk P w K mg base CX0 3 f fd ["rooms"] (spP ⟨P, w, K⟩ SCheckRooms) := by
  refine Fn.ok sc_check_rooms (fun vs H Q E h => ?_) (fun cdv A outer s H vs Q E hr h => ?_)
  · obtain ⟨F, ts, _, hd, P, ⟨_, _, rfl, _⟩, _⟩ := h
    rw [hd.length]; rfl
  · obtain ⟨F, ts, fh, hd, PP, ⟨p, hg, rfl, hk⟩, q⟩ := h
    have hu := hr.units
    refine ⟨_, (pss_cons (ps_for PassesOwn.never rfl (pi_listB ⟨P, w, K⟩ rfl (pv 0)) (pg_name (i := 1) sc_check_rooms.nd rfl (Or.inl rfl)) (pss_one (ps_for PassesOwn.never rfl (pi_listB ⟨P, w, K⟩ rfl (pv 1)) (pg_name (i := 2) sc_check_rooms.nd rfl (Or.inl rfl)) (pss_one (ps_expr (pe_call C_check_step.ok (hr.mono (by decide)) (by rfl) C_check_step.mg C_check_step.kp C_check_step.bd .nil pass0 (pa_cons (pv 2) (pa_cons (pe_callB (call_lenB ⟨P, w, K⟩ rfl hu) (by rfl) TX.n_len (by decide +kernel) (pa_cons (pv 0) pa_nil)) pa_nil))))))))
    (pss_one (ps_for PassesOwn.never rfl (pi_enum (by rfl) TX.n_enumerate (pa_cons (pv 0) pa_nil)) (pg_tupB ⟨P, w, K⟩ rfl 2 rfl (pgs_cons (pg_name (i := 3) sc_check_rooms.nd rfl (Or.inl rfl)) (pgs_cons (pg_name (i := 1) sc_check_rooms.nd rfl (Or.inl rfl)) pgs_nil))) (pss_one (ps_if (pt_cmpR op_uLt (pe_callB (call_lenB ⟨P, w, K⟩ rfl hu) (by rfl) TX.n_len (by decide +kernel) (pa_cons (pe_call C_next_rooms.ok (hr.mono (by decide)) (by rfl) C_next_rooms.mg C_next_rooms.kp C_next_rooms.bd .nil pass0 (pa_cons (pv 1) pa_nil)) pa_nil)) (pe_callB (call_lenB ⟨P, w, K⟩ rfl hu) (by rfl) TX.n_len (by decide +kernel) (pa_cons (pv 1) pa_nil)) (nomark _)) (pss_one DL.ps_never) pss_nil))))), ?_⟩
    refine run_P (n := 3) fh hd rfl q ?_
    dsimp only [cxOf]
    obtain ⟨hg0, hg⟩ := hg
    refine es_seqJ (fun δ => ∃ x y, δ = [.d (ePlan p), x, y, .no]) ?_ ?_
    · refine es_forI (ei_L ?_)
      walk_at "d"
      refine ⟨fun i δ => ∃ x y, δ = [.d (ePlan p), x, y, .no], ⟨_, _, rfl⟩, fun _ _ _ => trivial, ?_, fun δ h => h⟩
      rintro i t δ ht ⟨x, y, rfl⟩
      rw [List.getElem?_map] at ht
      obtain ⟨r, hr', rfl⟩ := Option.map_eq_some_iff.mp ht
      have hgr := hg r (List.mem_of_getElem? hr')
      walk_at "d"
      refine es_forI (ei_L ?_)
      walk_at "d"
      refine ⟨fun i δ => ∃ y, δ = [.d (ePlan p), .d (eRoom r), y, .no], ⟨_, rfl⟩, fun _ _ _ => trivial, ?_, fun δ ⟨y, h⟩ => ⟨_, _, h⟩⟩
      rintro j t δ ht ⟨y, rfl⟩
      rw [List.getElem?_map] at ht
      obtain ⟨st, hst, rfl⟩ := Option.map_eq_some_iff.mp ht
      walk_at "d"
      refine ev_callPn ?_
      walk_at "d"
      refine ⟨[eS st, .int (p.map eRoom).length], rfl, st, (p.map eRoom).length, by rw [List.length_map]; exact hgr.2.1 st (List.mem_of_getElem? hst), rfl, ?_⟩
      exact ⟨_, rfl⟩
    · rintro δ ⟨x, y, rfl⟩
      refine es_forI (ei_E ?_)
      walk_at "d"
      refine ⟨fun i δ => ∃ x y z, δ = [.d (ePlan p), x, y, z], ⟨_, _, _, rfl⟩, fun _ _ _ => trivial, ?_, fun δ _ => hk⟩
      rintro i t δ ht ⟨x, y, z, rfl⟩
      obtain ⟨u, hu1, rfl⟩ := enumT_get ht
      rw [List.getElem?_map] at hu1
      obtain ⟨r, hr', rfl⟩ := Option.map_eq_some_iff.mp hu1
      have hgr := hg r (List.mem_of_getElem? hr')
      walk_at "d"
      refine ev_callPn ?_
      walk_at "d"
      refine ⟨[eRoom r], rfl, r, hgr.1, rfl, fun a => ?_⟩
      refine ⟨_, Pu.frO rfl, ?_⟩
      walk_at "d"
      refine ulen_N (ke := k3e) (ev := T.int) (m := ways r) DctV.d ?_
      walk_at "d"
      refine ite2 (fun h => ?_) (fun _ => ?_)
      · exfalso
        have h := of_decide_eq_true h
        rw [ways_nodup hgr.2.2] at h
        simp at h
      · walk_at "d"
        exact ⟨_, _, _, rfl⟩
end
end K

namespace K
open PySem L2 DL
section
variable {P : Program} {w : World} {K : PySem.W.Frag} {mg : Str → Option Value} {base : Heap}
/-- a service that is made of least rooms q -/
def objS (C : Addr) (q : Plan) : T := .obj C ["_rooms"] [ePlan q]
/-- a row of keys goes from room i -/
def goRow (q : Plan) : Nat → List K3 → Bool
  | _, [] => true
  | i, k :: ks => match q[i]? with
    | none => false
    | some r => match getM (ways r) k with
      | none => false
      | some j => goRow q j.toNat ks
theorem goRow_cons (q : Plan) (i : Nat) (k : K3) (ks : List K3) : goRow q i (k :: ks) = (match q[i]? with
    | none => false
    | some r => match getM (ways r) k with
      | none => false
      | some j => goRow q j.toNat ks) := rfl
theorem getM_mem {α β : Type} [DecidableEq α] : ∀ {m : List (α × β)} {a : α} {b : β}, getM m a = some b → (a, b) ∈ m
  | p :: m, a, b, h => by
    unfold getM at h
    split at h
    · rename_i e; cases h; subst e; exact List.mem_cons_self
    · exact List.mem_cons_of_mem _ (getM_mem h)
theorem putM_mem {α β : Type} [DecidableEq α] {m : List (α × β)} {a : α} {b : β} {p : α × β} (h : p ∈ putM m a b) : p ∈ m ∨ p = (a, b) := by
  unfold putM at h
  split at h
  · obtain ⟨x, hx, rfl⟩ := List.mem_map.mp h
    split
    · rename_i e; right; rw [e]
    · exact .inl hx
  · rcases List.mem_append.mp h with h | h
    · exact .inl h
    · right; simpa using h
theorem fold_mem : ∀ (r : Room) (m : List (K3 × Int)) (p : K3 × Int), p ∈ r.foldl (fun m s => putM m (kyOf s) (goalOf s)) m → p ∈ m ∨ ∃ s ∈ r, p = (kyOf s, goalOf s)
  | [], m, p, h => .inl h
  | s :: r, m, p, h => by
    rw [List.foldl_cons] at h
    rcases fold_mem r _ p h with h | ⟨s', h1, h2⟩
    · rcases putM_mem h with h | h
      · exact .inl h
      · exact .inr ⟨s, List.mem_cons_self, h⟩
    · exact .inr ⟨s', List.mem_cons_of_mem _ h1, h2⟩
theorem ways_goal {r : Room} {k : K3} {j : Int} (h : getM (ways r) k = some j) : ∃ s ∈ r, j = goalOf s := by
  rcases fold_mem _ _ _ (getM_mem h) with h | ⟨s, h1, h2⟩
  · cases h
  · cases h2; exact ⟨s, h1, rfl⟩
end
end K

namespace K
open PySem L2 DL
local macro_rules | `(tactic| walk_at "dl") => `(tactic| with_reducible first
  | refine es_if ?_ | refine es_append ?_ | refine es_sub ?_ | refine es_par3 ?_ | refine es_parD ?_ | refine es_asg ?_ | refine es_ret ?_ | refine es_retN ?_ | refine es_next ?_ | refine es_drop ?_ | refine es_break ?_ | refine es_cont ?_
  | refine et_val ?_ | refine et_B ?_ | refine et_not ?_ | refine et_and ?_ | refine et_or ?_ | refine et_yes ?_
  | refine ev_op ?_ | refine ev_un ?_ | refine ev_cb ?_ | refine ev_tup ?_ | refine ev_lst ?_ | refine ev_ifx ?_ | refine ev_andV ?_ | refine ev_orV ?_ | refine ev_notV ?_ | refine ev_sl ?_
  | refine ea_cons ?_ | refine ea_nil ?_ | refine ev_int ?_ | refine ev_str ?_ | refine ev_bl ?_ | refine ev_non ?_ | refine eo_none ?_ | refine eo_some ?_
  | refine gts_cons ?_ | refine gts_nil ?_
  | refine o2_addI ?_ | refine o2_ltI ?_ | refine o2_leI ?_ | refine o2_gtI ?_ | refine o2_geI ?_ | refine o2_ltS ?_ | refine o2_leS ?_ | refine o2_gtS ?_ | refine o2_sub ?_
  | refine oa_intI ?_ | refine oa_intB ?_ | refine oa_abs ?_ | refine oa_two ?_ | refine ulen_R ?_ | refine ulen_T ?_ | refine ulen_L LstV.d ?_
  | (refine ⟨_, Pu.d, ?_⟩) | (refine ⟨_, Pu.ptr, ?_⟩) | (refine ⟨_, Pu.fr, ?_⟩))
local macro_rules | `(tactic| walk_at "dv") => `(tactic| first
  | refine ev_var (by rfl) ?_ | refine ev_ptr (.inl (by rfl)) ?_ | refine ev_ptr (.inr (.inl (by rfl))) ?_ | refine ev_ptr (.inr (.inr (by rfl))) ?_
  | refine uix_L (LstV.o ⟨0, .inr (by rfl)⟩) (by rfl) ?_ | refine uix_L LstV.d (by rfl) ?_ | refine uix_T (by rfl) ?_
  | refine gt_tup (by rfl) ?_ | refine gt_name (by first | exact all_in | simp) ?_ | refine ⟨_, rfl, ?_⟩)
local macro_rules | `(tactic| walk_at "e") => `(tactic| repeat (first | walk_at "dl" | walk_at "dv"))
local macro_rules | `(tactic| walk_at "d") => `(tactic| repeat (first | with_reducible refine es_seq ?_ | walk_at "dl" | walk_at "dv"))
section
variable {P : Program} {w : World} {K : PySem.W.Frag} {mg : Str → Option Value} {base : Heap}
/-! ### pairs of rooms -/
def duoE : KeyEnc (Int × Int) where
  ek := fun p => .tup [.int p.1, .int p.2]
  en := fun p => .tup [.num p.1, .num p.2]
  nk := fun p => by simp [T.nk, T.nks]
  inj := fun a b h => by
    injection h with h
    injection h with h1 h
    injection h with h2 _
    injection h1 with h1; injection h2 with h2
    exact Prod.ext h1 h2
  depth := fun p => by simp [NestedKey.depth, NestedKey.depthAll]
  tup := fun p => ⟨_, rfl⟩
/-- a step and where it leads the two -/
def eW (x : K3 × (Int × Int)) : T := .tup [eK x.1, duoE.ek x.2]
/-- the steps that both rooms have -/
def sharedW (r t : Room) : List (K3 × (Int × Int)) := r.filterMap fun s => (getM (ways t) (kyOf s)).map fun j => (kyOf s, (goalOf s, j))
theorem getM_mapW {α β γ : Type} [DecidableEq β] {f : α → β} {g : α → γ} : ∀ {xs : List α} {x : α}, (xs.map f).Nodup → x ∈ xs → getM (xs.map fun y => (f y, g y)) (f x) = some (g x)
  | [], _, _, h => by cases h
  | y :: xs, x, nd, h => by
    rw [List.map_cons, List.nodup_cons] at nd
    rw [List.map_cons, getM]
    rcases List.mem_cons.mp h with rfl | h
    · rw [if_pos rfl]
    · have n : f y ≠ f x := fun e => nd.1 (by rw [e]; exact List.mem_map.mpr ⟨x, h, rfl⟩)
      rw [if_neg n]
      exact getM_mapW nd.2 h
theorem ways_get {r : Room} {s : Stp} (nd : (r.map kyOf).Nodup) (h : s ∈ r) : getM (ways r) (kyOf s) = some (goalOf s) := by
  rw [ways_nodup nd]
  exact getM_mapW nd h
abbrev s_shared_ways : Stmt := topS 19
abbrev N_shared_ways : List Str := ["room", "partner", "mine", "theirs", "step"]
theorem sc_shared_ways : FnScope N_shared_ways ["room", "partner"] (defScope s_shared_ways) := ⟨rfl, rfl, rfl, by decide +kernel, rfl, by decide +kernel, by decide +kernel⟩

def SShared : List T → (RT → Prop) → Prop := fun ts P => ∃ r t : Room, r.length < sizeLine ∧ t.length < sizeLine ∧ (r.map kyOf).Nodup ∧ ts = [eRoom r, eRoom t] ∧ P (.new (.lst ((sharedW r t).map eW)))
theorem ok_shared_ways {f : Addr} {fd : FuncData} (Fn : Fun K "shared_ways" "shared_ways" s_shared_ways f fd) (TX : TXF mg) (C_next_rooms : Cal P w K mg base CX0 "next_rooms" 1 ["room"] (spP ⟨P, w, K⟩ SNext)) : FnOk P w K mg base CX0 2 f fd ["room", "partner"] (spP ⟨P, w, K⟩ SShared) := by
  refine Fn.ok sc_shared_ways (fun vs H Q E h => ?_) (fun cdv A outer s H vs Q E hr h => ?_)
  · obtain ⟨F, ts, _, hd, P, ⟨_, _, _, _, _, rfl, _⟩, _⟩ := h
    rw [hd.length]; rfl
  · obtain ⟨F, ts, fh, hd, PP, ⟨r, t, hzr, hzt, nd, rfl, hk⟩, q⟩ := h
    have hu := hr.units
    refine ⟨_, (pss_cons (ps_asg (pe_tup (pa_cons (pe_call C_next_rooms.ok (hr.mono (by decide)) (by rfl) C_next_rooms.mg C_next_rooms.kp C_next_rooms.bd .nil pass0 (pa_cons (pv 0) pa_nil)) (pa_cons (pe_call C_next_rooms.ok (hr.mono (by decide)) (by rfl) C_next_rooms.mg C_next_rooms.kp C_next_rooms.bd .nil pass0 (pa_cons (pv 1) pa_nil)) pa_nil))) (pg_tupB ⟨P, w, K⟩ rfl 2 rfl (pgs_cons (pg_name (i := 2) sc_shared_ways.nd rfl (Or.inr rfl)) (pgs_cons (pg_name (i := 3) sc_shared_ways.nd rfl (Or.inr rfl)) pgs_nil))))
    (pss_one (ps_ret (pe_lc (own := [("step", 4)]) (by rfl) sc_shared_ways.nd (pi_keysN (pv 2)) (blkOk_by (N := N_shared_ways) (sc := defScope s_shared_ways) (by decide +kernel)) (fun _ _ _ _ _ => (pg_name (i := 4) sc_shared_ways.nd rfl (Or.inl rfl))) (fun _ _ _ _ _ => (pts_one (pt_cmpR (op_inB ⟨P, w, K⟩ rfl hu) (pv 4) (pv 3) (by with_unfolding_all rfl)))) (fun _ _ _ _ _ => (pe_tup (pa_cons (pv 4) (pa_cons (pe_tup (pa_cons (pe_ix (ix_B ⟨P, w, K⟩ rfl hu) (pv 2) (pv 4) (fun _ _ => rfl)) (pa_cons (pe_ix (ix_B ⟨P, w, K⟩ rfl hu) (pv 3) (pv 4) (fun _ _ => rfl)) pa_nil))) pa_nil)))))))), ?_⟩
    refine run_P (n := 3) fh hd rfl q ?_
    dsimp only [cxOf]
    refine es_seq ?_
    refine es_asgTup2 (by decide) (ea_consK (ev_callPn (ea_cons (ev_var (by rfl) ⟨_, Pu.d, ea_nil ⟨[eRoom r], rfl, r, hzr, rfl, fun pm => ⟨_, _, rfl, ?_⟩⟩⟩))))
    refine ea_consK (ev_callPn (ea_cons (ev_var (by rfl) ⟨_, Pu.d, ea_nil ⟨[eRoom t], rfl, t, hzt, rfl, fun pt => ⟨_, _, rfl, ?_⟩⟩⟩)))
    refine ea_nil ⟨pm, _, pt, _, rfl, ?_⟩
    have hw := ways_nodup nd
    refine es_ret (ev_lcI (ei_keysO 2 (ev_ptr (a := pm) (.inl (by rfl)) ⟨_, _, _, rfl, rfl, fun o es => ?_⟩)))
    have hlen : (ways r).length = r.length := by rw [hw, List.length_map]
    refine ⟨by rw [List.length_map, hlen]; omega, fun i acc δ => acc = (sharedW (r.take i) t).map eW ∧ δ = [.d (eRoom r), .d (eRoom t), .own pm (.L o es k3e T.int (ways r)), .own pt (.N k3e T.int (ways t)), .no], ⟨rfl, rfl⟩, ?_, ?_, ?_⟩
    · rintro i acc δ ⟨rfl, rfl⟩
      exact ⟨2, .inl rfl⟩
    · rintro i tt acc δ hti _ ⟨rfl, rfl⟩
      rw [List.getElem?_map, hw, List.getElem?_map] at hti
      obtain ⟨p, hp, rfl⟩ := Option.map_eq_some_iff.mp hti
      obtain ⟨st, hst, rfl⟩ := Option.map_eq_some_iff.mp hp
      have hm := List.mem_of_getElem? hst
      have ht1 : sharedW (r.take (i + 1)) t = sharedW (r.take i) t ++ ((getM (ways t) (kyOf st)).map fun j => (kyOf st, (goalOf st, j))).toList := by
        unfold sharedW
        rw [List.take_add_one, hst, Option.toList_some, List.filterMap_append]
        cases e : getM (ways t) (kyOf st) <;> simp [List.filterMap_cons, e]
      walk_at "d"
      refine uin_N (ke := k3e) (ev := T.int) (k := kyOf st) (m := ways t) (DctV.o ⟨3, .inl rfl⟩) ?_
      refine ⟨_, rfl, ?_⟩
      cases hg : getM (ways t) (kyOf st) with
      | none =>
        rw [hg] at ht1
        refine ite2 (fun h => nomatch h) (fun _ => ?_)
        refine ⟨?_, rfl⟩
        rw [ht1]; simp
      | some j =>
        rw [hg] at ht1
        refine ite2 (fun _ => ?_) (fun h => absurd rfl h)
        walk_at "d"
        refine uix_N (ke := k3e) (ev := T.int) (k := kyOf st) (m := ways r) (DctV.k ⟨2, .inl rfl⟩) (ways_get nd hm) ?_
        walk_at "d"
        refine uix_N (ke := k3e) (ev := T.int) (k := kyOf st) (m := ways t) (DctV.o ⟨3, .inl rfl⟩) hg ?_
        walk_at "d"
        refine ⟨[.int (goalOf st), .int j], rfl, (show 2 ≤ sizeLine by decide), _, Pu.d, ea_nil ?_⟩
        refine ⟨[eK (kyOf st), duoE.ek (goalOf st, j)], rfl, (show 2 ≤ sizeLine by decide), _, Pu.d, ?_, rfl⟩
        rw [ht1, List.map_append]; rfl
    · rintro acc δ _ ⟨rfl, rfl⟩ p
      rw [List.length_map, hlen, List.take_length]
      exact hk
end
end K

namespace K
open PySem L2 DL
local macro_rules | `(tactic| walk_at "dl") => `(tactic| with_reducible first
  | refine es_if ?_ | refine es_append ?_ | refine es_sub ?_ | refine es_par3 ?_ | refine es_parD ?_ | refine es_asg ?_ | refine es_ret ?_ | refine es_retN ?_ | refine es_next ?_ | refine es_drop ?_ | refine es_break ?_ | refine es_cont ?_
  | refine et_val ?_ | refine et_B ?_ | refine et_not ?_ | refine et_and ?_ | refine et_or ?_ | refine et_yes ?_
  | refine ev_op ?_ | refine ev_un ?_ | refine ev_cb ?_ | refine ev_tup ?_ | refine ev_lst ?_ | refine ev_ifx ?_ | refine ev_andV ?_ | refine ev_orV ?_ | refine ev_notV ?_ | refine ev_sl ?_
  | refine ea_cons ?_ | refine ea_nil ?_ | refine ev_int ?_ | refine ev_str ?_ | refine ev_bl ?_ | refine ev_non ?_ | refine eo_none ?_ | refine eo_some ?_
  | refine gts_cons ?_ | refine gts_nil ?_
  | refine o2_addI ?_ | refine o2_ltI ?_ | refine o2_leI ?_ | refine o2_gtI ?_ | refine o2_geI ?_ | refine o2_ltS ?_ | refine o2_leS ?_ | refine o2_gtS ?_ | refine o2_sub ?_
  | refine oa_intI ?_ | refine oa_intB ?_ | refine oa_abs ?_ | refine oa_two ?_ | refine ulen_R ?_ | refine ulen_T ?_ | refine ulen_L LstV.d ?_
  | (refine ⟨_, Pu.d, ?_⟩) | (refine ⟨_, Pu.ptr, ?_⟩) | (refine ⟨_, Pu.fr, ?_⟩))
local macro_rules | `(tactic| walk_at "dv") => `(tactic| first
  | refine ev_var (by rfl) ?_ | refine ev_ptr (.inl (by rfl)) ?_ | refine ev_ptr (.inr (.inl (by rfl))) ?_ | refine ev_ptr (.inr (.inr (by rfl))) ?_
  | refine uix_L (LstV.o ⟨0, .inr (by rfl)⟩) (by rfl) ?_ | refine uix_L LstV.d (by rfl) ?_ | refine uix_T (by rfl) ?_
  | refine gt_tup (by rfl) ?_ | refine gt_name (by first | exact all_in | simp) ?_ | refine ⟨_, rfl, ?_⟩)
local macro_rules | `(tactic| walk_at "e") => `(tactic| repeat (first | walk_at "dl" | walk_at "dv"))
local macro_rules | `(tactic| walk_at "d") => `(tactic| repeat (first | with_reducible refine es_seq ?_ | walk_at "dl" | walk_at "dv"))
section
variable {P : Program} {w : World} {K : PySem.W.Frag} {mg : Str → Option Value} {base : Heap}
abbrev s_law_goal : Stmt := topS 44
abbrev N_law_goal : List Str := ["steps_here", "key", "found", "sign", "line", "word", "goal"]
theorem sc_law_goal : FnScope N_law_goal ["steps_here", "key"] (defScope s_law_goal) := ⟨rfl, rfl, rfl, by decide +kernel, rfl, by decide +kernel, by decide +kernel⟩

def optT : Option Int → T
  | none => .non
  | some i => .int i
def SGoal : List T → (RT → Prop) → Prop := fun ts P => ∃ (r : Room) (k : K3), (∀ s ∈ r, okS s) ∧ okK k ∧ ts = [eRoom r, eK k] ∧ P (.d (optT (getM (ways r) k)))
theorem getM_put {α β : Type} [DecidableEq α] (m : List (α × β)) (a : α) (b : β) (k : α) : getM (putM m a b) k = if a = k then some b else getM m k := by
  unfold putM
  split
  · rename_i h
    induction m with
    | nil => cases h
    | cons p m ih =>
      obtain ⟨x, y⟩ := p
      rw [List.map_cons]
      by_cases e : x = a
      · subst e
        by_cases q : x = k
        · subst q; simp [getM]
        · have rest : getM (m.map fun p => if p.1 = x then (p.1, b) else p) k = getM m k := by
            clear ih h
            induction m with
            | nil => rfl
            | cons z m ih =>
              obtain ⟨z1, z2⟩ := z
              rw [List.map_cons]
              by_cases e2 : z1 = x
              · subst e2; simp [getM, q, ih]
              · by_cases e3 : z1 = k
                · subst e3; simp [getM, e2]
                · simp [getM, e2, e3, ih]
          simp [getM, q, rest]
      · have h' : (getM m a).isSome = true := by simpa [getM, e] using h
        by_cases q : x = k
        · subst q; simp [getM, e, Ne.symm e]
        · simp [getM, e, q, ih h']
  · rename_i h
    have h : getM m a = none := by simpa using h
    induction m with
    | nil => simp [getM]
    | cons p m ih =>
      obtain ⟨x, y⟩ := p
      have e : x ≠ a := fun e => by subst e; simp [getM] at h
      have h' : getM m a = none := by simpa [getM, e] using h
      by_cases q : x = k
      · subst q; simp [getM, Ne.symm e]
      · simp [getM, q]; have := ih (by simp [h']) h'; simpa using this
theorem ok_goal {f : Addr} {fd : FuncData} (Fn : Fun K "_law_goal" "_law_goal" s_law_goal f fd) (TX : TXF mg) : FnOk P w K mg base CX0 1 f fd ["steps_here", "key"] (spP ⟨P, w, K⟩ SGoal) := by
  refine Fn.ok sc_law_goal (fun vs H Q E h => ?_) (fun cdv A outer s H vs Q E hr h => ?_)
  · obtain ⟨F, ts, _, hd, P, ⟨_, _, _, _, rfl, _⟩, _⟩ := h
    rw [hd.length]; rfl
  · obtain ⟨F, ts, fh, hd, PP, ⟨r, k, h1, h2, rfl, hk⟩, q⟩ := h
    have hu := hr.units
    refine ⟨_, (pss_cons (ps_set (i := 2) sc_law_goal.nd rfl (Or.inl rfl) pe_non)
    (pss_cons (ps_for PassesOwn.never rfl (pi_listB ⟨P, w, K⟩ rfl (pv 0)) (pg_tupB ⟨P, w, K⟩ rfl 4 rfl (pgs_cons (pg_name (i := 3) sc_law_goal.nd rfl (Or.inl rfl)) (pgs_cons (pg_name (i := 4) sc_law_goal.nd rfl (Or.inl rfl)) (pgs_cons (pg_name (i := 5) sc_law_goal.nd rfl (Or.inl rfl)) (pgs_cons (pg_name (i := 6) sc_law_goal.nd rfl (Or.inl rfl)) pgs_nil))))) (pss_one (ps_if (pt_cmpR (op_eqB ⟨P, w, K⟩ rfl hu) (pe_tup (pa_cons (pv 3) (pa_cons (pv 4) (pa_cons (pv 5) pa_nil)))) (pv 1) (nomark _)) (pss_one (ps_set (i := 2) sc_law_goal.nd rfl (Or.inl rfl) (pv 6))) pss_nil)))
    (pss_one (ps_ret (pv 2))))), ?_⟩
    refine run_P (n := 5) fh hd rfl q ?_
    dsimp only [cxOf]
    refine es_seq ?_
    walk_at "e"
    refine es_seqJ (fun δ => ∃ a b c d, δ = [.d (eRoom r), .d (eK k), .d (optT (getM (ways r) k)), a, b, c, d]) ?_ ?_
    · refine es_forI (ei_L ?_)
      walk_at "d"
      refine ⟨fun i δ => ∃ a b c d, δ = [.d (eRoom r), .d (eK k), .d (optT (getM (ways (r.take i)) k)), a, b, c, d], ⟨_, _, _, _, rfl⟩, fun _ _ _ => trivial, ?_, ?_⟩
      · rintro i t δ ht ⟨a, b, c, d, rfl⟩
        rw [List.getElem?_map] at ht
        obtain ⟨st, hst, rfl⟩ := Option.map_eq_some_iff.mp ht
        have hway : getM (ways (r.take (i + 1))) k = if kyOf st = k then some (goalOf st) else getM (ways (r.take i)) k := by rw [ways_take hst, getM_put]
        have hok := h1 st (List.mem_of_getElem? hst)
        obtain ⟨s1, s2, s3, s4⟩ := st
        unfold eS
        dsimp only
        walk_at "d"
        refine ⟨[.str s1, .str s2, .str s3], rfl, (show 3 ≤ sizeLine by decide), ?_⟩
        walk_at "d"
        refine o2_eq (t := eK (s1, s2, s3)) (u := eK k) (eK_py _) (eK_py _) (dK_shaped hok) (dK_shaped h2) (dK_eqv _ _) ?_
        refine ⟨_, rfl, ?_⟩
        by_cases e : (s1, s2, s3) = k
        · rw [decide_eq_true e]
          refine ite2 (fun _ => ?_) (fun h => absurd rfl h)
          walk_at "d"
          have e' : kyOf (s1, s2, s3, s4) = k := e
          rw [hway, if_pos e']
          exact ⟨_, _, _, _, rfl⟩
        · rw [decide_eq_false e]
          refine ite2 (fun h => nomatch h) (fun _ => ?_)
          walk_at "d"
          have e' : ¬ kyOf (s1, s2, s3, s4) = k := e
          rw [hway, if_neg e']
          exact ⟨_, _, _, _, rfl⟩
      · rintro δ h
        rw [List.length_map, List.take_length] at h
        exact h
    · rintro δ ⟨a, b, c, d, rfl⟩
      walk_at "d"
      exact hk
end
end K

namespace K
open PySem L2 DL
local macro_rules | `(tactic| walk_at "dl") => `(tactic| with_reducible first
  | refine es_if ?_ | refine es_append ?_ | refine es_sub ?_ | refine es_par3 ?_ | refine es_parD ?_ | refine es_asg ?_ | refine es_ret ?_ | refine es_retN ?_ | refine es_next ?_ | refine es_drop ?_ | refine es_break ?_ | refine es_cont ?_
  | refine et_val ?_ | refine et_B ?_ | refine et_not ?_ | refine et_and ?_ | refine et_or ?_ | refine et_yes ?_
  | refine ev_op ?_ | refine ev_un ?_ | refine ev_cb ?_ | refine ev_tup ?_ | refine ev_lst ?_ | refine ev_ifx ?_ | refine ev_andV ?_ | refine ev_orV ?_ | refine ev_notV ?_ | refine ev_sl ?_
  | refine ea_cons ?_ | refine ea_nil ?_ | refine ev_int ?_ | refine ev_str ?_ | refine ev_bl ?_ | refine ev_non ?_ | refine eo_none ?_ | refine eo_some ?_
  | refine gts_cons ?_ | refine gts_nil ?_
  | refine o2_addI ?_ | refine o2_ltI ?_ | refine o2_leI ?_ | refine o2_gtI ?_ | refine o2_geI ?_ | refine o2_ltS ?_ | refine o2_leS ?_ | refine o2_gtS ?_ | refine o2_sub ?_
  | refine oa_intI ?_ | refine oa_intB ?_ | refine oa_abs ?_ | refine oa_two ?_ | refine ulen_R ?_ | refine ulen_T ?_ | refine ulen_L LstV.d ?_
  | (refine ⟨_, Pu.d, ?_⟩) | (refine ⟨_, Pu.ptr, ?_⟩) | (refine ⟨_, Pu.fr, ?_⟩))
local macro_rules | `(tactic| walk_at "dv") => `(tactic| first
  | refine ev_var (by rfl) ?_ | refine ev_ptr (.inl (by rfl)) ?_ | refine ev_ptr (.inr (.inl (by rfl))) ?_ | refine ev_ptr (.inr (.inr (by rfl))) ?_
  | refine uix_L (LstV.o ⟨0, .inr (by rfl)⟩) (by rfl) ?_ | refine uix_L LstV.d (by rfl) ?_ | refine uix_T (by rfl) ?_
  | refine gt_tup (by rfl) ?_ | refine gt_name (by first | exact all_in | simp) ?_ | refine ⟨_, rfl, ?_⟩)
local macro_rules | `(tactic| walk_at "e") => `(tactic| repeat (first | walk_at "dl" | walk_at "dv"))
local macro_rules | `(tactic| walk_at "d") => `(tactic| repeat (first | with_reducible refine es_seq ?_ | walk_at "dl" | walk_at "dv"))
section
variable {P : Program} {w : World} {K : PySem.W.Frag} {mg : Str → Option Value} {base : Heap}
abbrev s_law_coin : Stmt := topS 37
abbrev N_law_coin : List Str := ["mint", "many", "taken", "mixed"]
theorem sc_law_coin : FnScope N_law_coin ["mint", "many"] (defScope s_law_coin) := ⟨rfl, rfl, rfl, by decide +kernel, rfl, by decide +kernel, by decide +kernel⟩

def SCoin : OW → List T → (OW → RT → Prop) → Prop := fun us ts P => ∃ (n : Nat) (many : Int), n < 100000 ∧ Mint n us ∧ ts = [.int many] ∧ 0 < many ∧ many < 2 ^ 8000 ∧ ∀ us' r, Mint (n + 1) us' → 0 ≤ r → r < many → P us' (.d (.int r))
theorem log2_8000 {j : Int} (h0 : 0 ≤ j) (h : j < 2 ^ 8000) : j.natAbs.log2 < 9000 := by
  have : j.natAbs < 2 ^ 8000 := by omega
  exact Nat.lt_of_lt_of_le (PySem.Flt.log2_lt_of (by decide) this) (by decide)
theorem ok_coin {f : Addr} {fd : FuncData} (Fn : Fun K "_law_coin" "_law_coin" s_law_coin f fd) (TX : TXF mg) : FnOk P w K mg base CX0 1 f fd ["mint", "many"] (spM ⟨P, w, K⟩ SCoin) := by
  refine Fn.ok sc_law_coin (fun vs H Q E h => ?_) (fun cdv A outer s H vs Q E hr h => ?_)
  · obtain ⟨F, m, ws, us, ts, rfl, _, _, _, hd, P, ⟨_, _, _, _, rfl, _⟩, _⟩ := h
    rw [List.length_cons, hd.length]; rfl
  · obtain ⟨F, m, ws, us, ts, rfl, fh, fm, hm, hd, PP, ⟨n, many, hn, ⟨a, b, c, rfl, hb0, hb1, hc0, hc1⟩, rfl, hp, hq, hk⟩, q⟩ := h
    have hu := hr.units
    refine ⟨_, (pss_cons (ps_if (pt_cmpR op_uGt (pe_ix (ix_B ⟨P, w, K⟩ rfl hu) (pv 0) pe_int (fun _ _ => rfl)) pe_int (nomark _)) (pss_cons (ps_set (i := 2) sc_law_coin.nd rfl (Or.inl rfl) (pe_op op_mod (pe_callTy (call_int1') (by rfl) TX.n_int (by decide +kernel) (pa_cons (pe_ix (ix_B ⟨P, w, K⟩ rfl hu) (pv 0) pe_int (fun _ _ => rfl)) pa_nil)) (pv 1)))
    (pss_cons (ps_asg (pe_op op_fdivW (pe_ix (ix_B ⟨P, w, K⟩ rfl hu) (pv 0) pe_int (fun _ _ => rfl)) (pv 1)) (pg_sub (pv 0) pe_int (set_B ⟨P, w, K⟩ rfl hu)))
    (pss_one (ps_ret (pv 2))))) pss_nil)
    (pss_cons (ps_asg (pe_op (op_addB ⟨P, w, K⟩ rfl) (pe_ix (ix_B ⟨P, w, K⟩ rfl hu) (pv 0) pe_int (fun _ _ => rfl)) pe_int) (pg_sub (pv 0) pe_int (set_B ⟨P, w, K⟩ rfl hu)))
    (pss_cons (ps_set (i := 3) sc_law_coin.nd rfl (Or.inl rfl) (pe_op (op_addB ⟨P, w, K⟩ rfl) (pe_op op_pow (pe_op (op_addB ⟨P, w, K⟩ rfl) (pe_ix (ix_B ⟨P, w, K⟩ rfl hu) (pv 0) pe_int (fun _ _ => rfl)) (pe_op op_uMul pe_int (pe_ix (ix_B ⟨P, w, K⟩ rfl hu) (pv 0) pe_int (fun _ _ => rfl)))) pe_int) (pe_op op_uMul pe_int (pe_ix (ix_B ⟨P, w, K⟩ rfl hu) (pv 0) pe_int (fun _ _ => rfl)))))
    (pss_cons (ps_set (i := 3) sc_law_coin.nd rfl (Or.inl rfl) (pe_op (op_addB ⟨P, w, K⟩ rfl) (pe_op op_mod (pe_callTy (call_int1') (by rfl) TX.n_int (by decide +kernel) (pa_cons (pv 3) pa_nil)) pe_int) (pe_op op_uMul pe_int (pe_ix (ix_B ⟨P, w, K⟩ rfl hu) (pv 0) pe_int (fun _ _ => rfl)))))
    (pss_cons (ps_set (i := 3) sc_law_coin.nd rfl (Or.inl rfl) (pe_op op_mod (pe_callTy (call_int1') (by rfl) TX.n_int (by decide +kernel) (pa_cons (pe_op op_pow (pv 3) pe_int) pa_nil)) pe_int))
    (pss_one (ps_ret (pe_op op_mod (pe_callTy (call_int1') (by rfl) TX.n_int (by decide +kernel) (pa_cons (pe_op op_fdivW (pv 3) pe_int) pa_nil)) (pv 1))))))))), ?_⟩
    refine run_M (n := 2) fh fm hm hd rfl q ?_
    dsimp only [cxOf]
    walk_at "d"
    refine ite2 (fun h => ?_) (fun h => ?_)
    · walk_at "d"
      refine o2_mod hp ?_
      walk_at "d"
      refine o2_fdiv ⟨hp, log2_8000 (by omega) hq⟩ ?_
      walk_at "d"
      refine o3_A 0 (by rfl) (by rfl) ?_
      walk_at "d"
      exact hk _ _ ⟨_, b, c, rfl, hb0, hb1, hc0, by omega⟩ (Int.emod_nonneg _ (by omega)) (Int.emod_lt_of_pos _ hp)
    · walk_at "d"
      refine o3_A 0 (by rfl) (by rfl) ?_
      walk_at "d"
      refine o2_mulI (.inl ⟨by decide, by decide⟩) ?_
      walk_at "d"
      refine o2_pow ⟨by decide, by decide, by omega⟩ ?_
      walk_at "d"
      refine o2_mulI (.inl ⟨by decide, by decide⟩) ?_
      walk_at "d"
      refine o2_mod (by decide) ?_
      walk_at "d"
      refine o2_mulI (.inl ⟨by decide, by decide⟩) ?_
      walk_at "d"
      have z1 := Int.emod_nonneg ((b + 6700417 * (c + 1)) ^ (3 : Int).toNat + 97 * (c + 1)) (show (2305843009213693951 : Int) ≠ 0 by decide)
      have z2 := Int.emod_lt_of_pos ((b + 6700417 * (c + 1)) ^ (3 : Int).toNat + 97 * (c + 1)) (show (0 : Int) < 2305843009213693951 by decide)
      refine o2_pow ⟨by decide, by decide, by omega⟩ ?_
      walk_at "d"
      refine o2_mod (by decide) ?_
      walk_at "d"
      refine o2_fdiv ⟨by decide, by decide⟩ ?_
      walk_at "d"
      refine o2_mod hp ?_
      walk_at "d"
      exact hk _ _ ⟨_, b, c + 1, rfl, hb0, hb1, by omega, by omega⟩ (Int.emod_nonneg _ (by omega)) (Int.emod_lt_of_pos _ hp)
end
end K

namespace K
open PySem L2 DL
section
variable {P : Program} {w : World} {K : PySem.W.Frag} {mg : Str → Option Value} {base : Heap}
abbrev s_law_room_steps : Stmt := topS 39
abbrev N_law_room_steps : List Str := ["mint", "count", "lines_here", "words_here", "one_sign", "way", "steps_here", "turn", "sign", "line", "word", "told", "goal"]
theorem sc_law_room_steps : FnScope N_law_room_steps ["mint", "count", "lines_here", "words_here", "one_sign"] (defScope s_law_room_steps) := ⟨rfl, rfl, rfl, by decide +kernel, rfl, by decide +kernel, by decide +kernel⟩

/-- a draw of a mint that is the def's first argument -/
theorem ev_coin {c : Cn} {δ : List SV} {Post : List SV → SV → Prop} {ta : TA} {E : XK} (h : EVA c ta δ fun δ1 rs => ∃ (a : Addr) (us : OW) (n : Nat) (many : Int), rs = [.ptr a, .d (.int many)] ∧ δ1[0]? = some (SV.arg a us) ∧ Mint n us ∧ n < 100000 ∧ 0 < many ∧ many < 2 ^ 8000 ∧
    ∀ us' r, Mint (n + 1) us' → 0 ≤ r → r < many → Post (δ1.set 0 (.arg a us')) (.d (.int r))) : EV c (tCall (spM c.B SCoin) [] E ta) δ Post :=
  ev_callM fun σ H ρ Q S q => h σ H ρ Q S fun vs H' δ' rs ⟨a, us, n, many, e, h0, hm, hn, hp, hq, k⟩ => q vs H' δ' rs ⟨a, [.int many], e, 0, us, fun us' r => Mint (n + 1) us' ∧ ∃ i, r = .d (.int i) ∧ 0 ≤ i ∧ i < many, ⟨n, many, hn, hm, rfl, hp, hq, fun us' r h1 h2 h3 => ⟨h1, r, rfl, h2, h3⟩⟩, .inr ⟨h0, fun us' r ⟨h1, i, e, h2, h3⟩ => by subst e; exact k us' i h1 h2 h3⟩⟩
theorem small {j : Int} (h : j < 2 ^ 64) : j < 2 ^ 8000 := Int.lt_of_lt_of_le h (by decide +kernel)
def mkS (p : K3 × Int) : Stp := (p.1.1, p.1.2.1, p.1.2.2, p.2)
/-- ways out that a room is made of -/
def GoodM (n : Nat) (m : List (K3 × Int)) : Prop := (m.map (·.1)).Nodup ∧ ∀ p ∈ m, (p.1.1 = "!" ∨ p.1.1 = "?") ∧ IsName p.1.2.1 ∧ IsName p.1.2.2 ∧ 0 ≤ p.2 ∧ p.2 < n
theorem getM_nmem {α β : Type} [DecidableEq α] {m : List (α × β)} {a : α} (h : getM m a = none) : a ∉ m.map (·.1) := by
  induction m with
  | nil => simp
  | cons p m ih =>
    obtain ⟨x, y⟩ := p
    by_cases e : x = a
    · subst e; simp [getM] at h
    · have h' : getM m a = none := by simpa [getM, e] using h
      rw [List.map_cons, List.mem_cons]
      exact fun q => q.elim (fun z => e z.symm) (ih h')
theorem putM_keys {α β : Type} [DecidableEq α] {m : List (α × β)} {a : α} {b : β} (h : (m.map (·.1)).Nodup) : ((putM m a b).map (·.1)).Nodup := by
  unfold putM
  split
  · rw [List.map_map]
    have e : m.map ((fun p : α × β => p.1) ∘ fun p => if p.1 = a then (p.1, b) else p) = m.map (·.1) := List.map_congr_left fun p _ => by
      show (if p.1 = a then (p.1, b) else p).1 = p.1
      split <;> rfl
    rw [e]; exact h
  · rename_i q
    have q : getM m a = none := by simpa using q
    rw [List.map_append, List.nodup_append]
    refine ⟨h, by simp, fun x hx y hy e => ?_⟩
    simp at hy
    subst hy; subst e
    exact getM_nmem q hx
theorem GoodM.put {n : Nat} {m : List (K3 × Int)} {k1 k2 k3 : Str} {v : Int} (h : GoodM n m) (h1 : k1 = "!" ∨ k1 = "?") (h2 : IsName k2) (h3 : IsName k3) (h4 : 0 ≤ v) (h5 : v < n) : GoodM n (putM m (k1, k2, k3) v) :=
  ⟨putM_keys h.1, fun p hp => (putM_mem hp).elim (h.2 p) fun e => by subst e; exact ⟨h1, h2, h3, h4, h5⟩⟩
theorem Mint.mono {n m : Nat} {us : OW} (h : Mint n us) (l : n ≤ m) : Mint m us := let ⟨a, b, k, e, h1, h2, h3, h4⟩ := h; ⟨a, b, k, e, h1, h2, h3, by omega⟩
end
end K

namespace K
open PySem L2 DL
section
variable {P : Program} {w : World} {K : PySem.W.Frag} {mg : Str → Option Value} {base : Heap}
abbrev s_law_plan_of : Stmt := topS 40
abbrev N_law_plan_of : List Str := ["mint", "most", "lines_here", "words_here", "one_sign", "count", "turn"]
theorem sc_law_plan_of : FnScope N_law_plan_of ["mint", "most", "lines_here", "words_here", "one_sign"] (defScope s_law_plan_of) := ⟨rfl, rfl, rfl, by decide +kernel, rfl, by decide +kernel, by decide +kernel⟩

theorem sign_ok {x : Str} (h : x = "!" ∨ x = "?") : okT x := by
  rcases h with h | h
  · subst h; show PyData.strOk "!" = true; decide +kernel
  · subst h; show PyData.strOk "?" = true; decide +kernel
theorem GoodStep.ok {n : Int} {s : Stp} (h : GoodStep n s) : okS s := ⟨sign_ok h.1, h.2.1.ok, h.2.2.1.ok⟩
end
end K

namespace K
open PySem L2 DL
local macro_rules | `(tactic| walk_at "dl") => `(tactic| with_reducible first
  | refine es_if ?_ | refine es_append ?_ | refine es_sub ?_ | refine es_par3 ?_ | refine es_parD ?_ | refine es_asg ?_ | refine es_ret ?_ | refine es_retN ?_ | refine es_next ?_ | refine es_drop ?_ | refine es_break ?_ | refine es_cont ?_
  | refine et_val ?_ | refine et_B ?_ | refine et_not ?_ | refine et_and ?_ | refine et_or ?_ | refine et_yes ?_
  | refine ev_op ?_ | refine ev_un ?_ | refine ev_cb ?_ | refine ev_tup ?_ | refine ev_lst ?_ | refine ev_ifx ?_ | refine ev_andV ?_ | refine ev_orV ?_ | refine ev_notV ?_ | refine ev_sl ?_
  | refine ea_cons ?_ | refine ea_nil ?_ | refine ev_int ?_ | refine ev_str ?_ | refine ev_bl ?_ | refine ev_non ?_ | refine eo_none ?_ | refine eo_some ?_
  | refine gts_cons ?_ | refine gts_nil ?_
  | refine o2_addI ?_ | refine o2_ltI ?_ | refine o2_leI ?_ | refine o2_gtI ?_ | refine o2_geI ?_ | refine o2_ltS ?_ | refine o2_leS ?_ | refine o2_gtS ?_ | refine o2_sub ?_
  | refine oa_intI ?_ | refine oa_intB ?_ | refine oa_abs ?_ | refine oa_two ?_ | refine ulen_R ?_ | refine ulen_T ?_ | refine ulen_L LstV.d ?_
  | (refine ⟨_, Pu.d, ?_⟩) | (refine ⟨_, Pu.ptr, ?_⟩) | (refine ⟨_, Pu.fr, ?_⟩))
local macro_rules | `(tactic| walk_at "dv") => `(tactic| first
  | refine ev_var (by rfl) ?_ | refine ev_ptr (.inl (by rfl)) ?_ | refine ev_ptr (.inr (.inl (by rfl))) ?_ | refine ev_ptr (.inr (.inr (by rfl))) ?_
  | refine uix_L (LstV.o ⟨0, .inr (by rfl)⟩) (by rfl) ?_ | refine uix_L LstV.d (by rfl) ?_ | refine uix_T (by rfl) ?_
  | refine gt_tup (by rfl) ?_ | refine gt_name (by first | exact all_in | simp) ?_ | refine ⟨_, rfl, ?_⟩)
local macro_rules | `(tactic| walk_at "e") => `(tactic| repeat (first | walk_at "dl" | walk_at "dv"))
local macro_rules | `(tactic| walk_at "d") => `(tactic| repeat (first | with_reducible refine es_seq ?_ | walk_at "dl" | walk_at "dv"))
section
variable {P : Program} {w : World} {K : PySem.W.Frag} {mg : Str → Option Value} {base : Heap}
theorem map_inj {α β : Type} {f : α → β} (h : Function.Injective f) : ∀ a b : List α, a.map f = b.map f → a = b
  | [], [], _ => rfl
  | [], y :: ys, e => by cases e
  | x :: xs, [], e => by cases e
  | x :: xs, y :: ys, e => by
    rw [List.map_cons, List.map_cons] at e
    injection e with e1 e2
    rw [h e1, map_inj h xs ys e2]
/-- rooms as keys of dicts -/
def viewE : KeyEnc Room where
  ek := fun r => .tup (r.map eS)
  en := fun r => .tup (r.map fun s => .tup [.text s.1, .text s.2.1, .text s.2.2.1, .num s.2.2.2])
  nk := fun r => by
    have : ∀ r : Room, T.nks (r.map eS) = some (r.map fun s => .tup [.text s.1, .text s.2.1, .text s.2.2.1, .num s.2.2.2]) := by
      intro r
      induction r with
      | nil => rfl
      | cons s r ih => rw [List.map_cons, List.map_cons, T.nks, ih]; simp [eS, T.nk, T.nks]
    rw [T.nk, this]; rfl
  inj := fun a b h => by
    injection h with h
    have inj : Function.Injective (fun s : Stp => NestedKey.tup [.text s.1, .text s.2.1, .text s.2.2.1, .num s.2.2.2]) := by
      intro s t e
      injection e with e
      injection e with h1 e
      injection e with h2 e
      injection e with h3 e
      injection e with h4 _
      injection h1 with h1; injection h2 with h2; injection h3 with h3; injection h4 with h4
      exact Prod.ext h1 (Prod.ext h2 (Prod.ext h3 h4))
    exact map_inj inj a b h
  depth := fun r => by
    have : ∀ r : Room, NestedKey.depthAll (r.map fun s => .tup [.text s.1, .text s.2.1, .text s.2.2.1, .num s.2.2.2]) ≤ 1 := by
      intro r
      induction r with
      | nil => simp [NestedKey.depthAll]
      | cons s r ih => rw [List.map_cons, NestedKey.depthAll]; exact Nat.max_le.mpr ⟨by simp [NestedKey.depth, NestedKey.depthAll], ih⟩
    rw [NestedKey.depth]; have := this r; omega
  tup := fun a => ⟨_, rfl⟩
abbrev s_split_groups : Stmt := topS 12
abbrev N_split_groups : List Str := ["rooms", "groups", "views", "numbers", "view", "steps", "sign", "line", "word", "room"]
theorem sc_split_groups : FnScope N_split_groups ["rooms", "groups"] (defScope s_split_groups) := ⟨rfl, rfl, rfl, by decide +kernel, rfl, by decide +kernel, by decide +kernel⟩

/-- a room's steps with the groups of the rooms that they lead to -/
def view (gs : List Int) (r : Room) : Room := r.map fun s => (s.1, s.2.1, s.2.2.1, (gs[(goalOf s).toNat]?).getD 0)
def numStep (m : List (Room × Int)) (v : Room) : List (Room × Int) := if (getM m v).isSome then m else putM m v m.length
def nums (vs : List Room) : List (Room × Int) := vs.foldl numStep []
def splitG (p : Plan) (gs : List Int) : List Int := (p.map (view gs)).map fun v => (getM (nums (p.map (view gs))) v).getD 0
theorem num_len : ∀ (vs : List Room) (m : List (Room × Int)), (vs.foldl numStep m).length ≤ m.length + vs.length
  | [], m => by simp
  | v :: vs, m => by
    rw [List.foldl_cons, List.length_cons]
    have h1 := num_len vs (numStep m v)
    have h2 : (numStep m v).length ≤ m.length + 1 := by
      unfold numStep; split
      · omega
      · exact putM_len _ _ _
    omega
theorem num_keep {m : List (Room × Int)} {v k : Room} (h : (getM m k).isSome = true) : (getM (numStep m v) k).isSome = true := by
  unfold numStep; split
  · exact h
  · rw [getM_put]; split
    · rfl
    · exact h
theorem num_keeps : ∀ (vs : List Room) (m : List (Room × Int)) {k : Room}, (getM m k).isSome = true → (getM (vs.foldl numStep m) k).isSome = true
  | [], m, k, h => h
  | v :: vs, m, k, h => num_keeps vs _ (num_keep h)
theorem num_has : ∀ (vs : List Room) (m : List (Room × Int)) {v : Room}, v ∈ vs → (getM (vs.foldl numStep m) v).isSome = true
  | x :: vs, m, v, h => by
    rw [List.foldl_cons]
    rcases List.mem_cons.mp h with h | h
    · subst h
      refine num_keeps vs _ ?_
      unfold numStep; split
      · assumption
      · rw [getM_put, if_pos rfl]; rfl
    · exact num_has vs _ h
theorem nums_take {vs : List Room} {i : Nat} {v : Room} (h : vs[i]? = some v) : nums (vs.take (i + 1)) = numStep (nums (vs.take i)) v := by
  unfold nums; rw [List.take_add_one, h]; simp
def SSplit : List T → (RT → Prop) → Prop := fun ts P => ∃ (p : Plan) (gs : List Int), gs.length = p.length ∧ p.length < sizeLine ∧ (∀ r ∈ p, r.length < sizeLine ∧ ∀ s ∈ r, 0 ≤ goalOf s ∧ goalOf s < p.length) ∧ ts = [ePlan p, .lst (gs.map T.int)] ∧ P (.new (.lst ((splitG p gs).map T.int)))
theorem ok_split {f : Addr} {fd : FuncData} (Fn : Fun K "split_groups" "split_groups" s_split_groups f fd) (TX : TXF mg) : FnOk P w K mg base CX0 1 f fd ["rooms", "groups"] (spP ⟨P, w, K⟩ SSplit) := by
  refine Fn.ok sc_split_groups (fun vs H Q E h => ?_) (fun cdv A outer s H vs Q E hr h => ?_)
  · obtain ⟨F, ts, _, hd, P, ⟨_, _, _, _, _, rfl, _⟩, _⟩ := h
    rw [hd.length]; rfl
  · obtain ⟨F, ts, fh, hd, PP, ⟨p, gs, hl, hp1, hp2, rfl, hk⟩, q⟩ := h
    have hu := hr.units
    refine ⟨_, (pss_cons (ps_setLc (i := 2) (own := [("steps", 5)]) (by rfl) sc_split_groups.nd rfl rfl (sw_true rfl rfl rfl (by decide +kernel)) (pi_listB ⟨P, w, K⟩ rfl (pv 0)) (blkOk_by (N := N_split_groups) (sc := defScope s_split_groups) (by decide +kernel)) (fun _ _ _ _ _ => (pg_name (i := 5) sc_split_groups.nd rfl (Or.inl rfl))) (fun _ _ _ _ _ => pts_nil) (fun _ _ _ _ _ => (pe_callTy (call_tupleB ⟨P, w, K⟩ rfl) (by rfl) TX.n_tuple (by decide +kernel) (pa_cons (pe_lc (own := [("sign", 6), ("line", 7), ("word", 8), ("room", 9)]) (by rfl) sc_split_groups.nd (pi_listB ⟨P, w, K⟩ rfl (pv 5)) (blkOk_by (N := N_split_groups) (sc := _) (by rfl)) (fun _ _ _ _ _ => (pg_tupB ⟨P, w, K⟩ rfl 4 rfl (pgs_cons (pg_name (i := 6) sc_split_groups.nd rfl (Or.inl rfl)) (pgs_cons (pg_name (i := 7) sc_split_groups.nd rfl (Or.inl rfl)) (pgs_cons (pg_name (i := 8) sc_split_groups.nd rfl (Or.inl rfl)) (pgs_cons (pg_name (i := 9) sc_split_groups.nd rfl (Or.inl rfl)) pgs_nil)))))) (fun _ _ _ _ _ => pts_nil) (fun _ _ _ _ _ => (pe_tup (pa_cons (pv 6) (pa_cons (pv 7) (pa_cons (pv 8) (pa_cons (pe_ix (ix_B ⟨P, w, K⟩ rfl hu) (pv 1) (pv 9) (fun _ _ => rfl)) pa_nil))))))) pa_nil))))
    (pss_cons (ps_set (i := 3) sc_split_groups.nd rfl (Or.inr rfl) pe_dnewN)
    (pss_cons (ps_for PassesOwn.never rfl (pi_listB ⟨P, w, K⟩ rfl (pv 2)) (pg_name (i := 4) sc_split_groups.nd rfl (Or.inl rfl)) (pss_one (ps_if (pt_cmpR (op_notInB ⟨P, w, K⟩ rfl hu) (pv 4) (pv 3) (by with_unfolding_all rfl)) (pss_one (ps_asg (pe_callB (call_lenB ⟨P, w, K⟩ rfl hu) (by rfl) TX.n_len (by decide +kernel) (pa_cons (pv 3) pa_nil)) (pg_sub (pv 3) (pv 4) (set_B ⟨P, w, K⟩ rfl hu)))) pss_nil)))
    (pss_one (ps_ret (pe_lc (own := [("view", 4)]) (by rfl) sc_split_groups.nd (pi_listB ⟨P, w, K⟩ rfl (pv 2)) (blkOk_by (N := N_split_groups) (sc := defScope s_split_groups) (by decide +kernel)) (fun _ _ _ _ _ => (pg_name (i := 4) sc_split_groups.nd rfl (Or.inl rfl))) (fun _ _ _ _ _ => pts_nil) (fun _ _ _ _ _ => (pe_ix (ix_B ⟨P, w, K⟩ rfl hu) (pv 3) (pv 4) (fun _ _ => rfl))))))))), ?_⟩
    refine run_P (n := 8) fh hd rfl q ?_
    dsimp only [cxOf]
    refine es_seq ?_
    walk_at "e"
    refine ev_lcI (ei_L ?_)
    walk_at "e"
    refine ⟨by rw [List.length_map]; omega, fun i acc δ => acc = ((p.take i).map (view gs)).map (fun r => T.tup (r.map eS)) ∧ δ = [.d (ePlan p), .d (.lst (gs.map T.int)), .no, .no, .no, .no, .no, .no, .no, .no], ⟨by simp, rfl⟩, fun _ _ _ _ => trivial, ?_, ?_⟩
    · rintro i t acc δ ht _ ⟨rfl, rfl⟩
      rw [List.getElem?_map] at ht
      obtain ⟨r, hr', rfl⟩ := Option.map_eq_some_iff.mp ht
      have hgr := hp2 r (List.mem_of_getElem? hr')
      walk_at "d"
      refine ite2 (fun _ => ?_) (fun h => nomatch h)
      walk_at "d"
      refine ev_lcI (ei_L ?_)
      walk_at "d"
      refine ⟨by rw [List.length_map]; exact Nat.le_of_lt hgr.1, fun j acc δ => acc = (view gs (r.take j)).map eS ∧ δ = [.d (ePlan p), .d (.lst (gs.map T.int)), .no, .no, .no, .d (eRoom r), .no, .no, .no, .no], ⟨rfl, rfl⟩, fun _ _ _ _ => trivial, ?_, ?_⟩
      · rintro j t acc δ ht _ ⟨rfl, rfl⟩
        rw [List.getElem?_map] at ht
        obtain ⟨⟨s1, s2, s3, s4⟩, hst, rfl⟩ := Option.map_eq_some_iff.mp ht
        have hs := hgr.2 _ (List.mem_of_getElem? hst)
        have hs1 : 0 ≤ s4 := hs.1
        have hs2 : s4 < p.length := hs.2
        obtain ⟨g, rfl⟩ := Int.eq_ofNat_of_zero_le hs1
        have hg : g < gs.length := by omega
        unfold eS
        dsimp only
        walk_at "d"
        refine ite2 (fun _ => ?_) (fun h => nomatch h)
        walk_at "d"
        refine uix_L LstV.d (ts := gs.map T.int) (t := .int gs[g]) (atI_nat (by simp [hg])) ?_
        walk_at "d"
        refine ⟨[.str s1, .str s2, .str s3, .int gs[g]], rfl, (show 4 ≤ sizeLine by decide), ?_⟩
        walk_at "d"
        refine ⟨?_, rfl⟩
        rw [List.take_add_one, hst]; simp [view, eS, goalOf, hg]
      · rintro acc δ _ ⟨rfl, rfl⟩ p2
        rw [List.length_map, List.take_length]
        walk_at "d"
        refine oa_tuple LstV.d ?_
        refine ⟨_, Pu.d, ?_, rfl⟩
        rw [List.take_add_one, hr']; simp
    · rintro acc δ _ ⟨rfl, rfl⟩ p'
      rw [List.length_map, List.take_length]
      walk_at "e"
      refine es_seq ?_
      walk_at "e"
      refine ev_newN viewE T.int fun p2 => ?_
      walk_at "e"
      have hvl : ((p.map (view gs)).map fun r => T.tup (r.map eS)).length = p.length := by simp
      refine es_seqJ (fun δ => ∃ x, δ = [.d (ePlan p), .d (.lst (gs.map T.int)), .own p' (.lst ((p.map (view gs)).map fun r => T.tup (r.map eS))), .own p2 (.N viewE T.int (nums (p.map (view gs)))), x, .no, .no, .no, .no, .no]) ?_ ?_
      · refine es_forI (ei_O ?_)
        walk_at "e"
        refine ⟨p', _, rfl, ⟨2, .inl rfl⟩, fun i δ => ∃ x, δ = [.d (ePlan p), .d (.lst (gs.map T.int)), .own p' (.lst ((p.map (view gs)).map fun r => T.tup (r.map eS))), .own p2 (.N viewE T.int (nums ((p.map (view gs)).take i))), x, .no, .no, .no, .no, .no], ⟨_, rfl⟩, ?_, ?_, ?_⟩
        · rintro i δ ⟨x, rfl⟩; exact ⟨2, .inl rfl⟩
        · rintro i t δ ht ⟨x, rfl⟩
          rw [List.getElem?_map] at ht
          obtain ⟨v, hv, rfl⟩ := Option.map_eq_some_iff.mp ht
          have htk := nums_take hv
          have hnl := num_len ((p.map (view gs)).take i) []
          have hnl2 : ((p.map (view gs)).take i).length ≤ p.length := by rw [List.length_take, List.length_map]; omega
          have hnl3 : (nums ((p.map (view gs)).take i)).length < sizeLine := by unfold nums; simp only [List.length_nil] at hnl; omega
          walk_at "d"
          refine uni_N (ke := viewE) (ev := T.int) (k := v) (m := nums ((p.map (view gs)).take i)) (DctV.o ⟨3, .inl rfl⟩) ?_
          refine ⟨_, rfl, ?_⟩
          cases hs : (getM (nums ((p.map (view gs)).take i)) v).isSome with
          | true =>
            refine ite2 (fun h => nomatch h) (fun _ => ?_)
            walk_at "d"
            refine ⟨.d (viewE.ek v), ?_⟩
            rw [htk]; unfold numStep; rw [if_pos hs]
            rfl
          | false =>
            refine ite2 (fun _ => ?_) (fun h => absurd rfl h)
            walk_at "d"
            refine ulen_N (ke := viewE) (ev := T.int) (m := nums ((p.map (view gs)).take i)) (DctV.o ⟨3, .inl rfl⟩) ?_
            walk_at "d"
            refine o3_N (ke := viewE) (ev := T.int) (k := v) (x := ((nums ((p.map (view gs)).take i)).length : Int)) (m := nums ((p.map (view gs)).take i)) 3 rfl hnl3 ?_
            refine ⟨.d (viewE.ek v), ?_⟩
            rw [htk]; unfold numStep; rw [if_neg (by rw [hs]; decide)]
            rfl
        · rintro δ ⟨x, rfl⟩
          rw [List.length_map, List.take_length]
          exact ⟨x, rfl⟩
      · rintro δ ⟨x, rfl⟩
        walk_at "e"
        refine ev_lcI (ei_O ?_)
        walk_at "e"
        refine ⟨p', _, rfl, ⟨2, .inl rfl⟩, by rw [hvl]; omega, fun i acc δ => acc = (((p.map (view gs)).take i).map fun v => (getM (nums (p.map (view gs))) v).getD 0).map T.int ∧ δ = [.d (ePlan p), .d (.lst (gs.map T.int)), .own p' (.lst ((p.map (view gs)).map fun r => T.tup (r.map eS))), .own p2 (.N viewE T.int (nums (p.map (view gs)))), .no, .no, .no, .no, .no, .no], ⟨by simp, rfl⟩, ?_, ?_, ?_⟩
        · rintro i acc δ ⟨_, rfl⟩; exact ⟨2, .inl rfl⟩
        · rintro i t acc δ ht _ ⟨rfl, rfl⟩
          rw [List.getElem?_map] at ht
          obtain ⟨v, hv, rfl⟩ := Option.map_eq_some_iff.mp ht
          obtain ⟨b, hb⟩ := Option.isSome_iff_exists.mp (num_has (p.map (view gs)) [] (List.mem_of_getElem? hv))
          walk_at "d"
          refine ite2 (fun _ => ?_) (fun h => nomatch h)
          walk_at "d"
          refine uix_N (ke := viewE) (ev := T.int) (k := v) (m := nums (p.map (view gs))) (DctV.o ⟨3, .inl rfl⟩) hb ?_
          refine ⟨_, Pu.d, ?_, rfl⟩
          have hb' : getM (nums (p.map (view gs))) v = some b := hb
          rw [List.take_add_one, hv]; simp [hb']
        · rintro acc δ _ ⟨rfl, rfl⟩ p3
          rw [List.length_map, List.take_length]
          exact hk
end
end K

namespace K
open PySem L2 DL
theorem snoc_ind {α : Type} {p : List α → Prop} (h0 : p []) (h1 : ∀ l a, p l → p (l ++ [a])) (l : List α) : p l := by
  have : ∀ l : List α, p l.reverse := fun l => by
    induction l with
    | nil => exact h0
    | cons a l ih => rw [List.reverse_cons]; exact h1 _ _ ih
  have := this l.reverse
  rwa [List.reverse_reverse] at this
section
variable {α β ι : Type} [DecidableEq α] [DecidableEq β]
/-- first occurrences -/
def dst (vs : List α) : List α := vs.foldl (fun d v => if v ∈ d then d else d ++ [v]) []
theorem dst_snoc (vs : List α) (v : α) : dst (vs ++ [v]) = if v ∈ dst vs then dst vs else dst vs ++ [v] := by unfold dst; rw [List.foldl_append]; rfl
theorem mem_dst (vs : List α) : ∀ v, v ∈ dst vs ↔ v ∈ vs := by
  refine snoc_ind (p := fun vs => ∀ v, v ∈ dst vs ↔ v ∈ vs) (by simp [dst]) (fun l a ih v => ?_) vs
  rw [dst_snoc]
  split
  · rename_i h
    rw [ih, List.mem_append, List.mem_singleton]
    exact ⟨.inl, fun q => q.elim id fun e => by subst e; exact (ih v).mp h⟩
  · rw [List.mem_append, List.mem_append, ih]
theorem dst_nodup (vs : List α) : (dst vs).Nodup := by
  refine snoc_ind (p := fun vs => (dst vs).Nodup) (by simp [dst]) (fun l a ih => ?_) vs
  rw [dst_snoc]
  split
  · exact ih
  · rename_i h
    rw [List.nodup_append]
    exact ⟨ih, by simp, fun x hx y hy e => by simp at hy; subst hy; subst e; exact h hx⟩
theorem dst_len (vs : List α) : (dst vs).length ≤ vs.length := by
  refine snoc_ind (p := fun vs => (dst vs).length ≤ vs.length) (by simp [dst]) (fun l a ih => ?_) vs
  rw [dst_snoc, List.length_append, List.length_singleton]
  split
  · omega
  · rw [List.length_append, List.length_singleton]; omega
theorem dst_app (xs : List α) : ∀ ys, ∃ zs, dst (xs ++ ys) = dst xs ++ zs := by
  refine snoc_ind ⟨[], by simp⟩ (fun l a ⟨zs, ih⟩ => ?_)
  rw [← List.append_assoc, dst_snoc]
  split
  · exact ⟨zs, ih⟩
  · exact ⟨zs ++ [a], by rw [ih, List.append_assoc]⟩
/-- injective on what is there -/
theorem dst_injOn {f : α → β} (vs : List α) (hf : ∀ a ∈ vs, ∀ b ∈ vs, f a = f b → a = b) : dst (vs.map f) = (dst vs).map f := by
  revert hf
  refine snoc_ind (p := fun vs => (∀ a ∈ vs, ∀ b ∈ vs, f a = f b → a = b) → dst (vs.map f) = (dst vs).map f) (fun _ => by simp [dst]) (fun l a ih hf => ?_) vs
  have ih := ih fun x hx y hy => hf x (List.mem_append_left _ hx) y (List.mem_append_left _ hy)
  rw [List.map_append, List.map_cons, List.map_nil, dst_snoc, dst_snoc, ih]
  by_cases h : a ∈ dst l
  · rw [if_pos h, if_pos (List.mem_map_of_mem h)]
  · rw [if_neg h, if_neg, List.map_append, List.map_cons, List.map_nil]
    intro q
    obtain ⟨b, hb, e⟩ := List.mem_map.mp q
    have hb' := (mem_dst l b).mp hb
    have := hf b (List.mem_append_left _ hb') a (by simp) e
    subst this; exact h hb
/-- a finer partition has no fewer classes; with no more it is the same -/
theorem refine_cnt {f : ι → α} {g : ι → β} : ∀ l : List ι, (∀ i ∈ l, ∀ j ∈ l, f i = f j → g i = g j) → (dst (l.map g)).length ≤ (dst (l.map f)).length ∧ ((dst (l.map f)).length ≤ (dst (l.map g)).length → ∀ i ∈ l, ∀ j ∈ l, g i = g j → f i = f j) := by
  refine snoc_ind (fun _ => ⟨Nat.le_refl _, fun _ i h => nomatch h⟩) (fun l a ih h => ?_)
  obtain ⟨h1, h2⟩ := ih fun i hi j hj => h i (List.mem_append_left _ hi) j (List.mem_append_left _ hj)
  have ha : a ∈ l ++ [a] := by simp
  rw [List.map_append, List.map_append, List.map_cons, List.map_nil, List.map_cons, List.map_nil, dst_snoc, dst_snoc]
  by_cases hg : g a ∈ dst (l.map g)
  · rw [if_pos hg]
    by_cases hf : f a ∈ dst (l.map f)
    · rw [if_pos hf]
      refine ⟨h1, fun q => ?_⟩
      have h2 := h2 q
      obtain ⟨k, hk, ek⟩ := List.mem_map.mp ((mem_dst _ _).mp hf)
      have hga := h k (List.mem_append_left _ hk) a ha ek
      have red : ∀ j ∈ l, g a = g j → f a = f j := fun j hj e => by rw [← ek]; exact h2 k hk j hj (hga.trans e)
      intro i hi j hj e
      rcases List.mem_append.mp hi with xi | xi <;> rcases List.mem_append.mp hj with xj | xj
      · exact h2 i xi j xj e
      · rw [List.mem_singleton] at xj; subst xj; exact (red i xi e.symm).symm
      · rw [List.mem_singleton] at xi; subst xi; exact red j xj e
      · rw [List.mem_singleton] at xi xj; subst xi; subst xj; rfl
    · rw [if_neg hf, List.length_append, List.length_singleton]
      exact ⟨by omega, fun q => by omega⟩
  · rw [if_neg hg]
    have hf : f a ∉ dst (l.map f) := fun q => by
      obtain ⟨k, hk, ek⟩ := List.mem_map.mp ((mem_dst _ _).mp q)
      refine hg ((mem_dst _ _).mpr ?_)
      rw [← h k (List.mem_append_left _ hk) a ha ek]
      exact List.mem_map_of_mem hk
    rw [if_neg hf, List.length_append, List.length_append, List.length_singleton, List.length_singleton]
    refine ⟨by omega, fun q => ?_⟩
    have h2 := h2 (by omega)
    intro i hi j hj e
    rcases List.mem_append.mp hi with xi | xi <;> rcases List.mem_append.mp hj with xj | xj
    · exact h2 i xi j xj e
    · rw [List.mem_singleton] at xj; subst xj
      exact absurd ((mem_dst _ _).mpr (by rw [← e]; exact List.mem_map_of_mem xi)) hg
    · rw [List.mem_singleton] at xi; subst xi
      exact absurd ((mem_dst _ _).mpr (by rw [e]; exact List.mem_map_of_mem xj)) hg
    · rw [List.mem_singleton] at xi xj; subst xi; subst xj; rfl
/-- distinct things, numbered, as a dict -/
def numD (d : List α) : List (α × Int) := d.zipIdx.map fun p => (p.1, (p.2 : Int))
theorem numD_snoc (d : List α) (v : α) : numD (d ++ [v]) = numD d ++ [(v, (d.length : Int))] := by
  unfold numD; rw [List.zipIdx_append]; simp
theorem numD_len (d : List α) : (numD d).length = d.length := by simp [numD]
theorem getM_app {m m' : List (α × β)} {a : α} : getM (m ++ m') a = (getM m a).or (getM m' a) := by
  induction m with
  | nil => simp [getM]
  | cons p m ih =>
    obtain ⟨x, y⟩ := p
    rw [List.cons_append, getM, getM]
    split <;> simp [ih]
theorem getM_numD (d : List α) : ∀ v, getM (numD d) v = if v ∈ d then some (d.idxOf v : Int) else none := by
  refine snoc_ind (p := fun d => ∀ v, getM (numD d) v = if v ∈ d then some (d.idxOf v : Int) else none) (fun v => by simp [numD, getM]) (fun l a ih v => ?_) d
  rw [numD_snoc, getM_app, ih, List.idxOf_append]
  by_cases h : v ∈ l
  · simp [h]
  · simp only [h, if_false, List.mem_append, List.mem_singleton, false_or, Option.none_or, getM]
    by_cases e : a = v
    · subst e; simp
    · simp [e, Ne.symm e]
theorem num_step (vs : List α) (v : α) : (if (getM (numD (dst vs)) v).isSome then numD (dst vs) else putM (numD (dst vs)) v (numD (dst vs)).length) = numD (dst (vs ++ [v])) := by
  rw [dst_snoc, getM_numD]
  by_cases h : v ∈ dst vs
  · simp [h]
  · have e : getM (numD (dst vs)) v = none := by rw [getM_numD, if_neg h]
    rw [if_neg h, if_neg h, numD_snoc, numD_len]
    simp [putM, e]
end
/-- the number of a thing -/
def posG {α : Type} [DecidableEq α] (vs : List α) (v : α) : Int := ((dst vs).idxOf v : Nat)
theorem posG_inj {α : Type} [DecidableEq α] {vs : List α} {a b : α} (ha : a ∈ vs) (h : posG vs a = posG vs b) : a = b := by
  unfold posG at h
  have h : (dst vs).idxOf a = (dst vs).idxOf b := by omega
  have ha' := (mem_dst vs a).mpr ha
  have l1 := List.idxOf_lt_length_iff.mpr ha'
  have e1 : (dst vs)[(dst vs).idxOf a] = a := List.getElem_idxOf l1
  have l2 : (dst vs).idxOf b < (dst vs).length := by rw [← h]; exact l1
  have e2 : (dst vs)[(dst vs).idxOf b] = b := List.getElem_idxOf l2
  rw [← e1, ← e2]
  simp only [h]
theorem posG_max {α : Type} [DecidableEq α] {vs : List α} (h : vs ≠ []) : ∃ v ∈ vs, posG vs v = ((dst vs).length : Int) - 1 := by
  obtain ⟨v, hv⟩ := List.exists_mem_of_ne_nil _ h
  have l1 := List.idxOf_lt_length_iff.mpr ((mem_dst _ _).mpr hv)
  have hl : (dst vs).length - 1 < (dst vs).length := by omega
  refine ⟨(dst vs)[(dst vs).length - 1], (mem_dst _ _).mp (List.getElem_mem hl), ?_⟩
  unfold posG
  rw [(dst_nodup _).idxOf_getElem]
  omega
theorem posG_lt {α : Type} [DecidableEq α] {vs : List α} {v : α} (h : v ∈ vs) : 0 ≤ posG vs v ∧ posG vs v < (dst vs).length := by
  have l1 := List.idxOf_lt_length_iff.mpr ((mem_dst _ _).mpr h)
  unfold posG; omega
theorem getM_pos {α : Type} [DecidableEq α] {vs : List α} {v : α} (h : v ∈ vs) : getM (numD (dst vs)) v = some (posG vs v) := by
  rw [getM_numD, if_pos ((mem_dst _ _).mpr h)]; rfl
/-! ### the groups -/
theorem nums_dst (vs : List Room) : nums vs = numD (dst vs) := by
  refine snoc_ind (p := fun vs => nums vs = numD (dst vs)) rfl (fun l a ih => ?_) vs
  rw [← num_step, ← ih]
  unfold nums
  rw [List.foldl_append]
  rfl
abbrev pos (vs : List Room) (v : Room) : Int := posG vs v
theorem splitG_eq (p : Plan) (gs : List Int) : splitG p gs = p.map fun r => pos (p.map (view gs)) (view gs r) := by
  unfold splitG
  rw [List.map_map]
  refine List.map_congr_left fun r hr => ?_
  show (getM (nums _) _).getD 0 = _
  rw [nums_dst, getM_pos (List.mem_map_of_mem hr)]
  rfl
theorem pos_inj {vs : List Room} {a b : Room} (ha : a ∈ vs) (h : pos vs a = pos vs b) : a = b := posG_inj ha h
/-- the greatest number is one less than the number of classes -/
def MaxOk (gs : List Int) : Prop := ∀ m, m ∈ gs → (∀ y ∈ gs, y ≤ m) → m + 1 = (dst gs).length
theorem split_dst (p : Plan) (gs : List Int) : (dst (splitG p gs)).length = (dst (p.map (view gs))).length := by
  rw [splitG_eq]
  have e : (p.map fun r => pos (p.map (view gs)) (view gs r)) = (p.map (view gs)).map (pos (p.map (view gs))) := by rw [List.map_map]; rfl
  rw [e, dst_injOn _ fun a ha b _ h => pos_inj ha h, List.length_map]
theorem split_max (p : Plan) (gs : List Int) : MaxOk (splitG p gs) := fun m hm hall => by
  rw [split_dst]
  rw [splitG_eq] at hm hall
  obtain ⟨r, hr, rfl⟩ := List.mem_map.mp hm
  have hv : view gs r ∈ p.map (view gs) := List.mem_map_of_mem hr
  obtain ⟨v, hv2, e⟩ := posG_max (List.ne_nil_of_mem hv)
  obtain ⟨r2, hr2, rfl⟩ := List.mem_map.mp hv2
  have h2 := hall _ (List.mem_map_of_mem hr2)
  have h3 := posG_lt hv
  unfold pos at h2 ⊢
  omega
theorem zero_max (n : Nat) (h : 0 < n) : MaxOk (List.replicate n 0) := fun m hm _ => by
  have hm := List.eq_of_mem_replicate hm
  subst hm
  have : ∀ k, dst (List.replicate (k + 1) (0 : Int)) = [0] := fun k => by
    induction k with
    | zero => simp [dst]
    | succ k ih => rw [List.replicate_succ', dst_snoc, ih]; simp
  obtain ⟨k, rfl⟩ : ∃ k, n = k + 1 := ⟨n - 1, by omega⟩
  rw [this]; rfl
/-- rooms that lead to rooms, in p with n rooms -/
def Tgt (p : Plan) : Prop := ∀ r ∈ p, ∀ s ∈ r, 0 ≤ goalOf s ∧ goalOf s < p.length
def gAt (gs : List Int) (j : Int) : Int := (gs[j.toNat]?).getD 0
theorem view_gAt (gs : List Int) (r : Room) : view gs r = r.map fun s => (s.1, s.2.1, s.2.2.1, gAt gs (goalOf s)) := rfl
/-- the groups h are finer than g on the rooms -/
def Finer (n : Nat) (h g : List Int) : Prop := ∀ i < n, ∀ j < n, gAt h i = gAt h j → gAt g i = gAt g j
theorem gAt_split {p : Plan} {gs : List Int} {i : Nat} (hi : i < p.length) : gAt (splitG p gs) i = pos (p.map (view gs)) (view gs p[i]) := by
  rw [splitG_eq]; unfold gAt; simp [hi]
theorem split_view {p : Plan} {gs : List Int} {i j : Nat} (hi : i < p.length) (hj : j < p.length) : gAt (splitG p gs) i = gAt (splitG p gs) j ↔ view gs p[i] = view gs p[j] := by
  rw [gAt_split hi, gAt_split hj]
  exact ⟨pos_inj (List.mem_map_of_mem (List.getElem_mem hi)), fun h => by rw [h]⟩
theorem view_finer {p : Plan} (ht : Tgt p) {h g : List Int} (f : Finer p.length h g) {r r' : Room} (hr : r ∈ p) (hr' : r' ∈ p) (e : view h r = view h r') : view g r = view g r' := by
  have ht1 := ht r hr
  have ht2 := ht r' hr'
  clear hr hr'
  rw [view_gAt, view_gAt] at e ⊢
  induction r generalizing r' with
  | nil => cases r' with
    | nil => rfl
    | cons s r' => simp at e
  | cons s r ih => cases r' with
    | nil => simp at e
    | cons s' r' =>
      rw [List.map_cons, List.map_cons] at e ⊢
      injection e with e1 e2
      injection e1 with a1 e1
      injection e1 with a2 e1
      injection e1 with a3 a4
      rw [ih e2 (fun s hs => ht1 s (List.mem_cons_of_mem _ hs)) (fun s hs => ht2 s (List.mem_cons_of_mem _ hs)), a1, a2, a3]
      have b1 := ht1 s List.mem_cons_self
      have b2 := ht2 s' List.mem_cons_self
      have q := f (goalOf s).toNat (by omega) (goalOf s').toNat (by omega) (by rw [Int.toNat_of_nonneg b1.1, Int.toNat_of_nonneg b2.1]; exact a4)
      rw [Int.toNat_of_nonneg b1.1, Int.toNat_of_nonneg b2.1] at q
      rw [q]
theorem split_finer {p : Plan} (ht : Tgt p) {gs : List Int} (f : Finer p.length (splitG p gs) gs) : Finer p.length (splitG p (splitG p gs)) (splitG p gs) := fun i hi j hj e => by
  rw [split_view hi hj] at e
  rw [split_view hi hj]
  exact view_finer ht f (List.getElem_mem hi) (List.getElem_mem hj) e
/-- groups that no round parts -/
def Stable (p : Plan) (gs : List Int) : Prop := ∀ i (hi : i < p.length) j (hj : j < p.length), gAt gs i = gAt gs j → view gs p[i] = view gs p[j]
theorem map_gAt {gs : List Int} {n : Nat} (h : gs.length = n) : (List.range n).map (fun i => gAt gs (i : Nat)) = gs := by
  apply List.ext_getElem
  · simp [h]
  · intro i h1 h2
    simp [gAt, h2]
theorem split_len (p : Plan) (gs : List Int) : (splitG p gs).length = p.length := by unfold splitG; simp
theorem stable_of {p : Plan} {gs : List Int} (hl : gs.length = p.length) (f : Finer p.length (splitG p gs) gs) (h : (dst (splitG p gs)).length ≤ (dst gs).length) : Stable p gs := fun i hi j hj e => by
  have := (refine_cnt (f := fun i : Nat => gAt (splitG p gs) i) (g := fun i : Nat => gAt gs i) (List.range p.length) fun i hi j hj e => f i (List.mem_range.mp hi) j (List.mem_range.mp hj) e).2
  rw [map_gAt (split_len p gs), map_gAt hl] at this
  have := this h i (List.mem_range.mpr hi) j (List.mem_range.mpr hj) e
  exact (split_view hi hj).mp this
theorem gAt_zero (n : Nat) (i : Int) : gAt (List.replicate n 0) i = 0 := by
  unfold gAt
  rw [List.getElem?_replicate]
  split <;> rfl
theorem zero_finer (n m : Nat) (hs : List Int) : Finer n hs (List.replicate m 0) := fun i _ j _ _ => by rw [gAt_zero, gAt_zero]
end K

namespace K
open PySem L2 DL
/-! ### ways with other goals -/
def setG (f : Int → Int) (s : Stp) : Stp := (s.1, s.2.1, s.2.2.1, f (goalOf s))
theorem putM_map {α β γ : Type} [DecidableEq α] (f : β → γ) (m : List (α × β)) (a : α) (b : β) : putM (m.map fun p => (p.1, f p.2)) a (f b) = (putM m a b).map fun p => (p.1, f p.2) := by
  have e : ∀ m : List (α × β), getM (m.map fun p => (p.1, f p.2)) a = (getM m a).map f := fun m => by
    induction m with
    | nil => rfl
    | cons p m ih => rw [List.map_cons, getM, getM]; split <;> simp [ih]
  unfold putM
  rw [e, Option.isSome_map]
  split
  · rw [List.map_map, List.map_map]
    refine List.map_congr_left fun p _ => ?_
    show (if p.1 = a then (p.1, f b) else (p.1, f p.2)) = ((if p.1 = a then (p.1, b) else p).1, f (if p.1 = a then (p.1, b) else p).2)
    split <;> rfl
  · rw [List.map_append]; rfl
theorem getM_map {α β γ : Type} [DecidableEq α] (f : β → γ) (a : α) : ∀ m : List (α × β), getM (m.map fun p => (p.1, f p.2)) a = (getM m a).map f
  | [] => rfl
  | p :: m => by rw [List.map_cons, getM, getM]; split <;> simp [getM_map f a m]
theorem ways_set (f : Int → Int) (r : Room) : ways (r.map (setG f)) = (ways r).map fun p => (p.1, f p.2) := by
  have : ∀ (r : Room) (m : List (K3 × Int)), (r.map (setG f)).foldl (fun m s => putM m (kyOf s) (goalOf s)) (m.map fun p => (p.1, f p.2)) = (r.foldl (fun m s => putM m (kyOf s) (goalOf s)) m).map fun p => (p.1, f p.2) := by
    intro r
    induction r with
    | nil => intro m; rfl
    | cons s r ih =>
      intro m
      rw [List.map_cons, List.foldl_cons, List.foldl_cons, ← ih]
      congr 1
      exact putM_map f m (kyOf s) (goalOf s)
  exact this r []
theorem way_set (f : Int → Int) (r : Room) (k : K3) : getM (ways (r.map (setG f))) k = (getM (ways r) k).map f := by rw [ways_set, getM_map]
/-! ### pigeons -/
theorem nodup_sub {α : Type} [DecidableEq α] : ∀ {l m : List α}, l.Nodup → (∀ x ∈ l, x ∈ m) → l.length ≤ m.length
  | [], m, _, _ => Nat.zero_le _
  | a :: l, m, h, hs => by
    rw [List.nodup_cons] at h
    have ha := hs a List.mem_cons_self
    have := nodup_sub (m := m.erase a) h.2 fun x hx => (List.mem_erase_of_ne fun e => h.1 (by subst e; exact hx)).mpr (hs x (List.mem_cons_of_mem _ hx))
    rw [List.length_erase_of_mem ha] at this
    have := List.length_pos_of_mem ha
    rw [List.length_cons]; omega
/-! ### rooms as they are reached -/
def addR (gs : List Int) (re : List Int) (r : Int) : List Int := if gAt gs r ∈ re.map (gAt gs) then re else re ++ [r]
def dB (gs : List Int) (xs : List Int) : List Int := xs.foldl (addR gs) []
def rm (p : Plan) (r : Int) : Room := (p[r.toNat]?).getD []
def goals (r : Room) : List Int := r.map goalOf
def flat (p : Plan) (re : List Int) : List Int := re.flatMap fun r => goals (rm p r)
theorem dB_snoc (gs xs : List Int) (r : Int) : dB gs (xs ++ [r]) = addR gs (dB gs xs) r := by unfold dB; rw [List.foldl_append]; rfl
theorem dB_add (gs xs ys : List Int) : dB gs (xs ++ ys) = ys.foldl (addR gs) (dB gs xs) := by unfold dB; rw [List.foldl_append]
theorem dB_map (gs : List Int) (xs : List Int) : (dB gs xs).map (gAt gs) = dst (xs.map (gAt gs)) := by
  refine snoc_ind (p := fun xs => (dB gs xs).map (gAt gs) = dst (xs.map (gAt gs))) rfl (fun l a ih => ?_) xs
  rw [dB_snoc, List.map_append, List.map_cons, List.map_nil, dst_snoc, ← ih]
  unfold addR
  split <;> simp
theorem dB_mem (gs : List Int) (xs : List Int) : ∀ r ∈ dB gs xs, r ∈ xs := by
  refine snoc_ind (p := fun xs => ∀ r ∈ dB gs xs, r ∈ xs) (fun _ h => h) (fun l a ih r h => ?_) xs
  rw [dB_snoc] at h
  unfold addR at h
  split at h
  · exact List.mem_append_left _ (ih r h)
  · rcases List.mem_append.mp h with h | h
    · exact List.mem_append_left _ (ih r h)
    · exact List.mem_append_right _ h
theorem dB_app (gs xs : List Int) : ∀ ys, ∃ zs, dB gs (xs ++ ys) = dB gs xs ++ zs := by
  refine snoc_ind ⟨[], by simp⟩ (fun l a ⟨zs, ih⟩ => ?_)
  rw [← List.append_assoc, dB_snoc, ih]
  unfold addR
  split
  · exact ⟨zs, rfl⟩
  · exact ⟨zs ++ [a], by rw [List.append_assoc]⟩
/-- the rooms re are reached, those below at are gone through -/
structure BI (p : Plan) (gs : List Int) (re : List Int) (i : Nat) : Prop where
  le : i ≤ re.length
  eq : re = dB gs (0 :: flat p (re.take i))
  rc : ∀ k < i, k < (dB gs (0 :: flat p (re.take k))).length
theorem BI.start (p : Plan) (gs : List Int) : BI p gs [0] 0 := ⟨by simp, by simp [flat, dB, addR], fun _ h => by omega⟩
theorem flat_snoc (p : Plan) (xs : List Int) (r : Int) : flat p (xs ++ [r]) = flat p xs ++ goals (rm p r) := by unfold flat; simp
theorem BI.next {p : Plan} {gs re : List Int} {i : Nat} (h : BI p gs re i) (hi : i < re.length) : BI p gs ((goals (rm p re[i])).foldl (addR gs) re) (i + 1) ∧ ∃ zs, (goals (rm p re[i])).foldl (addR gs) re = re ++ zs := by
  have e : (goals (rm p re[i])).foldl (addR gs) re = dB gs (0 :: flat p (re.take (i + 1))) := by
    rw [List.take_add_one, List.getElem?_eq_getElem hi]
    show _ = dB gs (0 :: flat p (re.take i ++ [re[i]]))
    rw [flat_snoc, ← List.cons_append, dB_add, ← h.eq]
  obtain ⟨zs, hz⟩ := dB_app gs (0 :: flat p (re.take i)) (goals (rm p re[i]))
  rw [← h.eq, List.cons_append, ← flat_snoc] at hz
  have e1 : re.take (i + 1) = re.take i ++ [re[i]] := by rw [List.take_add_one, List.getElem?_eq_getElem hi]; rfl
  rw [← e1] at hz
  rw [← e] at hz
  refine ⟨⟨?_, ?_, ?_⟩, zs, hz⟩
  · rw [hz, List.length_append]; omega
  · have : ((goals (rm p re[i])).foldl (addR gs) re).take (i + 1) = re.take (i + 1) := by
      rw [hz, List.take_append_of_le_length (by omega)]
    rw [this]; exact e
  · intro k hk
    have ek : ((goals (rm p re[i])).foldl (addR gs) re).take k = re.take k := by
      rw [hz, List.take_append_of_le_length (by omega)]
    rw [ek]
    by_cases q : k = i
    · subst q
      have := congrArg List.length h.eq
      omega
    · exact h.rc k (by omega)
theorem rm_get {p : Plan} {j : Int} (h0 : 0 ≤ j) (h1 : j < p.length) : p[j.toNat]? = some (rm p j) := by
  have : j.toNat < p.length := by omega
  unfold rm; simp [this]
theorem rm_mem {p : Plan} {j : Int} (h0 : 0 ≤ j) (h1 : j < p.length) : rm p j ∈ p := List.mem_of_getElem? (rm_get h0 h1)
theorem goals_in {p : Plan} (ht : Tgt p) {j x : Int} (h0 : 0 ≤ j) (h1 : j < p.length) (hx : x ∈ goals (rm p j)) : 0 ≤ x ∧ x < p.length := by
  obtain ⟨s, hs, rfl⟩ := List.mem_map.mp hx
  exact ht _ (rm_mem h0 h1) s hs
theorem BI.range {p : Plan} (ht : Tgt p) (h0 : p ≠ []) {gs re : List Int} : ∀ {i : Nat}, BI p gs re i → ∀ r ∈ re, 0 ≤ r ∧ r < p.length := by
  intro i h
  have key : ∀ k, k ≤ i → ∀ r ∈ dB gs (0 :: flat p (re.take k)), 0 ≤ r ∧ r < p.length := by
    intro k
    induction k with
    | zero =>
      intro _ r hr
      have := dB_mem _ _ r hr
      simp [flat] at this
      subst this
      have := List.length_pos_iff.mpr h0
      omega
    | succ k ih =>
      intro hk r hr
      have hk1 : k < re.length := by have := h.le; omega
      have e1 : re.take (k + 1) = re.take k ++ [re[k]] := by rw [List.take_add_one, List.getElem?_eq_getElem hk1]; rfl
      have := dB_mem _ _ r hr
      rw [e1, flat_snoc, ← List.cons_append] at this
      -- the room gone through is one that was reached
      have hre : 0 ≤ re[k] ∧ re[k] < p.length := by
        have hlt := h.rc k (by omega)
        have hpre : ∃ zs, re = dB gs (0 :: flat p (re.take k)) ++ zs := by
          obtain ⟨zs, hz⟩ := dB_app gs (0 :: flat p (re.take k)) (flat p ((re.take i).drop k))
          refine ⟨zs, ?_⟩
          rw [← hz, List.cons_append]
          have : flat p (re.take k) ++ flat p ((re.take i).drop k) = flat p (re.take i) := by
            unfold flat
            rw [← List.flatMap_append]
            congr 1
            have : re.take k = (re.take i).take k := by rw [List.take_take]; congr 1; omega
            rw [this, List.take_append_drop]
          rw [this]; exact h.eq
        obtain ⟨zs, hz⟩ := hpre
        have : re[k]? = (dB gs (0 :: flat p (re.take k)))[k]? := by
          have := congrArg (fun l : List Int => l[k]?) hz
          rw [List.getElem?_append_left hlt] at this
          exact this
        rw [List.getElem?_eq_getElem hk1, List.getElem?_eq_getElem hlt] at this
        injection this with this
        rw [this]
        exact ih (by omega) _ (List.getElem_mem hlt)
      rcases List.mem_append.mp this with q | q
      · rcases List.mem_cons.mp q with q | q
        · subst q
          have := List.length_pos_iff.mpr h0
          omega
        · unfold flat at q
          obtain ⟨x, hx, hr2⟩ := List.mem_flatMap.mp q
          -- x is among the first k rooms reached: rooms in range by h.rc
          obtain ⟨t, htk, rfl⟩ := List.getElem_of_mem hx
          rw [List.length_take] at htk
          have ht1 : t < re.length := by omega
          -- by the smaller prefix
          have : 0 ≤ re[t] ∧ re[t] < p.length := by
            have hlt := h.rc t (by omega)
            have hpre : ∃ zs, re = dB gs (0 :: flat p (re.take t)) ++ zs := by
              obtain ⟨zs, hz⟩ := dB_app gs (0 :: flat p (re.take t)) (flat p ((re.take i).drop t))
              refine ⟨zs, ?_⟩
              rw [← hz, List.cons_append]
              have : flat p (re.take t) ++ flat p ((re.take i).drop t) = flat p (re.take i) := by
                unfold flat
                rw [← List.flatMap_append]
                congr 1
                have : re.take t = (re.take i).take t := by rw [List.take_take]; congr 1; omega
                rw [this, List.take_append_drop]
              rw [this]; exact h.eq
            obtain ⟨zs, hz⟩ := hpre
            have e3 : re[t]? = (dB gs (0 :: flat p (re.take t)))[t]? := by
              have := congrArg (fun l : List Int => l[t]?) hz
              rw [List.getElem?_append_left hlt] at this
              exact this
            rw [List.getElem?_eq_getElem ht1, List.getElem?_eq_getElem hlt] at e3
            injection e3 with e3
            have hk2 : re[t] ∈ dB gs (0 :: flat p (re.take k)) := by
              obtain ⟨ws, hw⟩ := dB_app gs (0 :: flat p (re.take t)) (flat p ((re.take k).drop t))
              have e4 : flat p (re.take t) ++ flat p ((re.take k).drop t) = flat p (re.take k) := by
                unfold flat
                rw [← List.flatMap_append]
                congr 1
                have : re.take t = (re.take k).take t := by rw [List.take_take]; congr 1; omega
                rw [this, List.take_append_drop]
              rw [List.cons_append, e4] at hw
              rw [hw, e3]
              exact List.mem_append_left _ (List.getElem_mem hlt)
            exact ih (by omega) _ hk2
          rw [List.getElem_take] at hr2
          exact goals_in ht this.1 this.2 hr2
      · exact goals_in ht hre.1 hre.2 q
  intro r hr
  rw [h.eq] at hr
  exact key i (Nat.le_refl _) r hr
theorem BI.nodup {p : Plan} {gs re : List Int} {i : Nat} (h : BI p gs re i) : (re.map (gAt gs)).Nodup := by
  rw [h.eq, dB_map]; exact dst_nodup _
theorem nodup_of_map {α β : Type} {f : α → β} : ∀ {l : List α}, (l.map f).Nodup → l.Nodup
  | [], _ => .nil
  | a :: l, h => by
    rw [List.map_cons, List.nodup_cons] at h
    rw [List.nodup_cons]
    exact ⟨fun q => h.1 (List.mem_map_of_mem q), nodup_of_map h.2⟩
theorem BI.len {p : Plan} (ht : Tgt p) (h0 : p ≠ []) {gs re : List Int} {i : Nat} (h : BI p gs re i) : re.length ≤ p.length := by
  have := nodup_sub (m := (List.range p.length).map fun i : Nat => (i : Int)) (nodup_of_map h.nodup) fun x hx => by
    have := h.range ht h0 x hx
    exact List.mem_map.mpr ⟨x.toNat, List.mem_range.mpr (by omega), by omega⟩
  simpa using this
/-- the rooms that come about, told anew -/
def posB (gs re : List Int) (g : Int) : Int := ((re.map (gAt gs)).idxOf g : Nat)
def numbered (p : Plan) (gs re : List Int) : Plan := re.map fun r => (rm p r).map (setG fun j => posB gs re (gAt gs j))
theorem BI.has {p : Plan} {gs re : List Int} (h : BI p gs re re.length) {r j : Int} (hr : r ∈ re) (hj : j ∈ goals (rm p r)) : gAt gs j ∈ re.map (gAt gs) := by
  have e := h.eq
  rw [List.take_length] at e
  rw [e, dB_map, mem_dst]
  refine List.mem_map_of_mem (List.mem_cons_of_mem _ ?_)
  exact List.mem_flatMap.mpr ⟨r, hr, hj⟩
theorem posB_at {gs re : List Int} {g : Int} (h : g ∈ re.map (gAt gs)) : ∃ hk : (posB gs re g).toNat < re.length, gAt gs (re[(posB gs re g).toNat]) = g ∧ 0 ≤ posB gs re g := by
  have l := List.idxOf_lt_length_iff.mpr h
  have e := List.getElem_idxOf l
  have l' : (posB gs re g).toNat < re.length := by unfold posB; rw [List.length_map] at l; omega
  refine ⟨l', ?_, by unfold posB; omega⟩
  rw [List.getElem_map] at e
  exact e
theorem numbered_len (p : Plan) (gs re : List Int) : (numbered p gs re).length = re.length := by simp [numbered]
theorem num_get {p : Plan} {gs re : List Int} {k : Nat} (hk : k < re.length) : (numbered p gs re)[k]? = some ((rm p re[k]).map (setG fun j => posB gs re (gAt gs j))) := by
  unfold numbered; simp [hk]
/-- the same rows, from rooms of the same group -/
theorem num_row {p : Plan} (ht : Tgt p) (h0 : p ≠ []) {gs re : List Int} (hs : Stable p gs) (h : BI p gs re re.length) : ∀ (ks : List K3) (j : Int) (k : Nat) (hk : k < re.length), 0 ≤ j → j < p.length → gAt gs j = gAt gs re[k] → goRow p j.toNat ks = goRow (numbered p gs re) k ks
  | [], j, k, hk, _, _, _ => rfl
  | key :: ks, j, k, hk, j0, j1, e => by
    have hr := h.range ht h0 re[k] (List.getElem_mem hk)
    have hv : view gs (rm p j) = view gs (rm p re[k]) := by
      have l1 : j.toNat < p.length := by omega
      have l2 : (re[k]).toNat < p.length := by omega
      have := hs j.toNat l1 (re[k]).toNat l2 (by rw [Int.toNat_of_nonneg j0, Int.toNat_of_nonneg hr.1]; exact e)
      unfold rm
      simpa [l1, l2] using this
    have hw : (getM (ways (rm p j)) key).map (gAt gs) = (getM (ways (rm p re[k])) key).map (gAt gs) := by
      rw [← way_set, ← way_set]
      show getM (ways (view gs _)) _ = getM (ways (view gs _)) _
      rw [hv]
    have hin : ∀ (i : Int) (x : Int), 0 ≤ i → i < p.length → getM (ways (rm p i)) key = some x → x ∈ goals (rm p i) := fun i x i0 i1 hx => by
      have : ∀ (r : Room) (m : List (K3 × Int)), (∀ q ∈ m, q.2 ∈ goals (rm p i)) → (∀ s ∈ r, goalOf s ∈ goals (rm p i)) → ∀ q ∈ r.foldl (fun m s => putM m (kyOf s) (goalOf s)) m, q.2 ∈ goals (rm p i) := by
        intro r
        induction r with
        | nil => intro m hm _ q hq; exact hm q hq
        | cons s r ih =>
          intro m hm hr q hq
          refine ih _ (fun z hz => ?_) (fun s hs => hr s (List.mem_cons_of_mem _ hs)) q hq
          unfold putM at hz
          dsimp only at hz
          split at hz
          · obtain ⟨y, hy, rfl⟩ := List.mem_map.mp hz
            split
            · exact hr s List.mem_cons_self
            · exact hm y hy
          · rcases List.mem_append.mp hz with hz | hz
            · exact hm z hz
            · rw [List.mem_singleton] at hz; subst hz; exact hr s List.mem_cons_self
      have mem : ∀ {m : List (K3 × Int)}, getM m key = some x → (key, x) ∈ m := by
        intro m
        induction m with
        | nil => intro h; cases h
        | cons q m ih =>
          intro h
          obtain ⟨q1, q2⟩ := q
          unfold getM at h
          split at h
          · rename_i e; cases h; subst e; exact List.mem_cons_self
          · exact List.mem_cons_of_mem _ (ih h)
      exact this (rm p i) [] (fun _ h => nomatch h) (fun s hs => List.mem_map_of_mem hs) _ (mem hx)
    rw [goRow_cons, goRow_cons, rm_get j0 j1, num_get hk]
    dsimp only
    rw [way_set]
    cases h1 : getM (ways (rm p j)) key with
    | none =>
      rw [h1] at hw
      cases h2 : getM (ways (rm p re[k])) key with
      | none => rfl
      | some y => rw [h2] at hw; cases hw
    | some x =>
      rw [h1] at hw
      cases h2 : getM (ways (rm p re[k])) key with
      | none => rw [h2] at hw; cases hw
      | some y =>
        rw [h2] at hw
        injection hw with hxy
        have hx := goals_in ht j0 j1 (hin j x j0 j1 h1)
        have hy := h.has (List.getElem_mem hk) (hin re[k] y hr.1 hr.2 h2)
        obtain ⟨hk', e', _⟩ := posB_at hy
        show goRow p x.toNat ks = goRow (numbered p gs re) (posB gs re (gAt gs y)).toNat ks
        exact num_row ht h0 hs h ks x _ hk' hx.1 hx.2 (by rw [e']; exact hxy)
theorem BI.zero {p : Plan} {gs re : List Int} {i : Nat} (h : BI p gs re i) : ∃ hk : 0 < re.length, re[0] = 0 := by
  obtain ⟨zs, hz⟩ := dB_app gs [0] (flat p (re.take i))
  have e : dB gs [0] = [0] := by simp [dB, addR]
  rw [e, List.singleton_append, ← h.eq] at hz
  subst hz
  exact ⟨by simp, rfl⟩
theorem num_rows {p : Plan} (ht : Tgt p) (h0 : p ≠ []) {gs re : List Int} (hs : Stable p gs) (h : BI p gs re re.length) (ks : List K3) : goRow (numbered p gs re) 0 ks = goRow p 0 ks := by
  obtain ⟨hk, e⟩ := h.zero
  have := List.length_pos_iff.mpr h0
  exact (num_row ht h0 hs h ks 0 0 hk (by decide) (by omega) (by rw [e])).symm
end K

namespace K
open PySem L2 DL
/-! ### rooms with unlike keys -/
theorem getM_iff {α β : Type} [DecidableEq α] : ∀ {m : List (α × β)}, (m.map (·.1)).Nodup → ∀ k v, getM m k = some v ↔ (k, v) ∈ m
  | [], _, k, v => by simp [getM]
  | (x, y) :: m, h, k, v => by
    rw [List.map_cons, List.nodup_cons] at h
    rw [getM, List.mem_cons]
    by_cases e : x = k
    · subst e
      rw [if_pos rfl]
      constructor
      · intro q; cases q; exact .inl rfl
      · intro q
        rcases q with q | q
        · cases q; rfl
        · exact absurd (List.mem_map_of_mem (f := (·.1)) q) h.1
    · rw [if_neg e, getM_iff h.2 k v]
      exact ⟨.inr, fun q => q.elim (fun z => by cases z; exact absurd rfl e) id⟩
theorem ways_map : ∀ {r : Room} (m : List (K3 × Int)), (m.map (·.1) ++ r.map kyOf).Nodup → r.foldl (fun m s => putM m (kyOf s) (goalOf s)) m = m ++ r.map fun s => (kyOf s, goalOf s)
  | [], m, _ => by simp
  | s :: r, m, h => by
    have hn : getM m (kyOf s) = none := by
      cases q : getM m (kyOf s) with
      | none => rfl
      | some v =>
        have : ∀ (m : List (K3 × Int)), getM m (kyOf s) = some v → kyOf s ∈ m.map (·.1) := by
          intro m
          induction m with
          | nil => intro h; cases h
          | cons z m ih =>
            obtain ⟨z1, z2⟩ := z
            intro h
            rw [getM] at h
            split at h
            · rename_i e; subst e; exact List.mem_cons_self
            · exact List.mem_cons_of_mem _ (ih h)
        have := this m q
        rw [List.map_cons, List.nodup_append] at h
        exact absurd rfl (h.2.2 _ this _ List.mem_cons_self)
    have e : putM m (kyOf s) (goalOf s) = m ++ [(kyOf s, goalOf s)] := by unfold putM; rw [hn]; rfl
    rw [List.foldl_cons, e, ways_map _ (by simpa using h), List.append_assoc]; rfl
theorem ways_nd {r : Room} (h : (r.map kyOf).Nodup) : ways r = r.map fun s => (kyOf s, goalOf s) := by
  unfold ways; rw [ways_map [] (by simpa using h)]; rfl
theorem way_iff {r : Room} (h : (r.map kyOf).Nodup) (k : K3) (v : Int) : getM (ways r) k = some v ↔ ∃ s ∈ r, kyOf s = k ∧ goalOf s = v := by
  rw [ways_nd h, getM_iff (by rw [List.map_map]; exact h)]
  rw [List.mem_map]
  constructor
  · rintro ⟨s, hs, e⟩; injection e with e1 e2; exact ⟨s, hs, e1, e2⟩
  · rintro ⟨s, hs, e1, e2⟩; exact ⟨s, hs, by rw [e1, e2]⟩
theorem way_perm {r r' : Room} (hp : r.Perm r') (h : (r.map kyOf).Nodup) (k : K3) : getM (ways r) k = getM (ways r') k := by
  have h' : (r'.map kyOf).Nodup := (hp.map kyOf).nodup_iff.mp h
  have key : ∀ v, getM (ways r) k = some v ↔ getM (ways r') k = some v := fun v => by
    rw [way_iff h, way_iff h']
    exact ⟨fun ⟨s, a, b⟩ => ⟨s, hp.mem_iff.mp a, b⟩, fun ⟨s, a, b⟩ => ⟨s, hp.mem_iff.mpr a, b⟩⟩
  cases q : getM (ways r) k with
  | some v => exact ((key v).mp q).symm
  | none =>
    cases q' : getM (ways r') k with
    | none => rfl
    | some v => rw [(key v).mpr q'] at q; cases q
/-- rooms in another sequence of steps have the same rows -/
theorem row_perm {p : Plan} {f : Room → Room} (hf : ∀ r ∈ p, (f r).Perm r) (hn : ∀ r ∈ p, (r.map kyOf).Nodup) : ∀ (ks : List K3) (i : Nat), goRow (p.map f) i ks = goRow p i ks
  | [], i => rfl
  | k :: ks, i => by
    rw [goRow_cons, goRow_cons, List.getElem?_map]
    cases q : p[i]? with
    | none => rfl
    | some r =>
      have hr := List.mem_of_getElem? q
      have := way_perm (hf r hr) (((hf r hr).map kyOf).nodup_iff.mpr (hn r hr)) k
      show (match getM (ways (f r)) k with | none => false | some j => goRow (p.map f) j.toNat ks) = (match getM (ways r) k with | none => false | some j => goRow p j.toNat ks)
      rw [this]
      cases getM (ways r) k with
      | none => rfl
      | some j => exact row_perm hf hn ks j.toNat
/-- whoever has the same ways out tells them in the same sequence -/
def KeySame (p : Plan) : Prop := ∀ r ∈ p, ∀ r' ∈ p, (∀ k, (getM (ways r) k).isSome = (getM (ways r') k).isSome) → r.map kyOf = r'.map kyOf
def NodK (p : Plan) : Prop := ∀ r ∈ p, (r.map kyOf).Nodup
def Same (p : Plan) (i : Nat) (q : Plan) (j : Nat) : Prop := ∀ ks, goRow p i ks = goRow q j ks
/-- rooms with the same rows are in one group -/
def Coarse (p : Plan) (gs : List Int) : Prop := ∀ i < p.length, ∀ j < p.length, Same p i p j → gAt gs i = gAt gs j
theorem same_some {p q : Plan} {i j : Nat} (hi : i < p.length) (hj : j < q.length) (h : Same p i q j) (k : K3) : (getM (ways p[i]) k).isSome = (getM (ways q[j]) k).isSome := by
  have := h [k]
  rw [goRow_cons, goRow_cons, List.getElem?_eq_getElem hi, List.getElem?_eq_getElem hj] at this
  dsimp only at this
  cases h1 : getM (ways p[i]) k <;> cases h2 : getM (ways q[j]) k <;> rw [h1, h2] at this <;> simp [goRow] at this ⊢
theorem same_next {p q : Plan} {i j : Nat} (hi : i < p.length) (hj : j < q.length) (h : Same p i q j) {k : K3} {x y : Int} (h1 : getM (ways p[i]) k = some x) (h2 : getM (ways q[j]) k = some y) : Same p x.toNat q y.toNat := fun ks => by
  have := h (k :: ks)
  rw [goRow_cons, goRow_cons, List.getElem?_eq_getElem hi, List.getElem?_eq_getElem hj] at this
  dsimp only at this
  rw [h1, h2] at this
  exact this
theorem room_ext : ∀ {r r' : Room} {f : Int → Int}, r.map kyOf = r'.map kyOf → (∀ s ∈ r, ∀ s' ∈ r', kyOf s = kyOf s' → f (goalOf s) = f (goalOf s')) → r.map (setG f) = r'.map (setG f)
  | [], [], _, _, _ => rfl
  | [], _ :: _, _, h, _ => by cases h
  | _ :: _, [], _, h, _ => by cases h
  | s :: r, s' :: r', f, h, hg => by
    rw [List.map_cons, List.map_cons] at h ⊢
    injection h with h1 h2
    have e1 := hg s List.mem_cons_self s' List.mem_cons_self h1
    rw [room_ext h2 fun a ha b hb => hg a (List.mem_cons_of_mem _ ha) b (List.mem_cons_of_mem _ hb)]
    have : setG f s = setG f s' := by
      injection h1 with a1 h1
      injection h1 with a2 a3
      simp only [setG, a1, a2, a3, e1]
    rw [this]
theorem split_coarse {p : Plan} (ht : Tgt p) (hk : KeySame p) (hn : NodK p) {gs : List Int} (h : Coarse p gs) : Coarse p (splitG p gs) := fun i hi j hj hs => by
  rw [split_view hi hj]
  have e := hk _ (List.getElem_mem hi) _ (List.getElem_mem hj) (same_some hi hj hs)
  show (p[i]).map (setG (gAt gs)) = (p[j]).map (setG (gAt gs))
  refine room_ext e fun s hs1 s' hs2 ek => ?_
  have n1 := hn _ (List.getElem_mem hi)
  have n2 := hn _ (List.getElem_mem hj)
  have w1 := (way_iff n1 (kyOf s) (goalOf s)).mpr ⟨s, hs1, rfl, rfl⟩
  have w2 := (way_iff n2 (kyOf s) (goalOf s')).mpr ⟨s', hs2, ek.symm, rfl⟩
  have t1 := ht _ (List.getElem_mem hi) s hs1
  have t2 := ht _ (List.getElem_mem hj) s' hs2
  have := h (goalOf s).toNat (by omega) (goalOf s').toNat (by omega) (same_next hi hj hs w1 w2)
  rwa [Int.toNat_of_nonneg t1.1, Int.toNat_of_nonneg t2.1] at this
theorem zero_coarse (p : Plan) (n : Nat) : Coarse p (List.replicate n 0) := fun i _ j _ _ => by rw [gAt_zero, gAt_zero]
end K

namespace K
open PySem L2 DL
/-! ### the canonical numbering -/
def fl (q : Plan) : List Int := q.flatMap goals
def rangeI (n : Nat) : List Int := (List.range n).map fun i : Nat => (i : Int)
theorem rangeI_get {n i : Nat} (h : i < n) : (rangeI n)[i]? = some (i : Int) := by unfold rangeI; simp [h]
theorem rangeI_len (n : Nat) : (rangeI n).length = n := by simp [rangeI]
theorem mem_rangeI {n : Nat} {x : Int} : x ∈ rangeI n ↔ 0 ≤ x ∧ x < n := by
  unfold rangeI
  rw [List.mem_map]
  constructor
  · rintro ⟨i, hi, rfl⟩
    have := List.mem_range.mp hi
    omega
  · intro h
    exact ⟨x.toNat, List.mem_range.mpr (by omega), by omega⟩
structure Can (q : Plan) : Prop where
  ne : q ≠ []
  eq : dst (0 :: fl q) = rangeI q.length
  rc : ∀ k < q.length, k < (dst (0 :: fl (q.take k))).length
def Red (q : Plan) : Prop := ∀ i < q.length, ∀ j < q.length, Same q i q j → i = j
/-- keys told in one order -/
def SortK (lt : K3 → K3 → Prop) (q : Plan) : Prop := ∀ r ∈ q, (r.map kyOf).Pairwise lt
theorem pair_ext {α : Type} {lt : α → α → Prop} (as : ∀ a b, lt a b → ¬ lt b a) : ∀ {l m : List α}, l.Pairwise lt → m.Pairwise lt → (∀ x, x ∈ l ↔ x ∈ m) → l = m
  | [], [], _, _, _ => rfl
  | [], b :: m, _, _, h => by have := (h b).mpr List.mem_cons_self; cases this
  | a :: l, [], _, _, h => by have := (h a).mp List.mem_cons_self; cases this
  | a :: l, b :: m, h1, h2, h => by
    rw [List.pairwise_cons] at h1 h2
    have e : a = b := Classical.byContradiction fun ne => by
      have q1 := (h a).mp List.mem_cons_self
      have q2 := (h b).mpr List.mem_cons_self
      rcases List.mem_cons.mp q1 with e | q1
      · exact ne e
      · rcases List.mem_cons.mp q2 with e | q2
        · exact ne e.symm
        · exact as _ _ (h1.1 b q2) (h2.1 a q1)
    subst e
    rw [pair_ext as h1.2 h2.2 fun x => ?_]
    have ir : ∀ y, ¬ lt y y := fun y hy => as y y hy hy
    constructor
    · intro hx
      rcases List.mem_cons.mp ((h x).mp (List.mem_cons_of_mem _ hx)) with e | e
      · subst e; exact absurd (h1.1 _ hx) (ir _)
      · exact e
    · intro hx
      rcases List.mem_cons.mp ((h x).mpr (List.mem_cons_of_mem _ hx)) with e | e
      · subst e; exact absurd (h2.1 _ hx) (ir _)
      · exact e
theorem key_mem {r : Room} (h : (r.map kyOf).Nodup) (k : K3) : k ∈ r.map kyOf ↔ (getM (ways r) k).isSome = true := by
  rw [Option.isSome_iff_exists, List.mem_map]
  constructor
  · rintro ⟨s, hs, e⟩; exact ⟨_, (way_iff h k _).mpr ⟨s, hs, e, rfl⟩⟩
  · rintro ⟨v, hv⟩
    obtain ⟨s, hs, e, _⟩ := (way_iff h k v).mp hv
    exact ⟨s, hs, e⟩
theorem keys_same {lt : K3 → K3 → Prop} (as : ∀ a b, lt a b → ¬ lt b a) {r r' : Room} (h : (r.map kyOf).Nodup) (h' : (r'.map kyOf).Nodup) (s : (r.map kyOf).Pairwise lt) (s' : (r'.map kyOf).Pairwise lt)
    (e : ∀ k, (getM (ways r) k).isSome = (getM (ways r') k).isSome) : r.map kyOf = r'.map kyOf :=
  pair_ext as s s' fun k => by rw [key_mem h, key_mem h', e]
theorem keySame_of {lt : K3 → K3 → Prop} (as : ∀ a b, lt a b → ¬ lt b a) {p : Plan} (hn : NodK p) (hs : SortK lt p) : KeySame p := fun r hr r' hr' e =>
  keys_same as (hn r hr) (hn r' hr') (hs r hr) (hs r' hr') e
theorem Same.symm {p q : Plan} {i j : Nat} (h : Same p i q j) : Same q j p i := fun ks => (h ks).symm
theorem Same.trans {p q r : Plan} {i j k : Nat} (h : Same p i q j) (h' : Same q j r k) : Same p i r k := fun ks => (h ks).trans (h' ks)
theorem prefix_new {X ys : List Int} {a : Int} {n : Nat} (h : dst (X ++ a :: ys) = rangeI n) (ha : a ∉ X) : a = (dst X).length := by
  have e : X ++ a :: ys = (X ++ [a]) ++ ys := by simp
  obtain ⟨zs, hz⟩ := dst_app (X ++ [a]) ys
  rw [e, hz, dst_snoc, if_neg (fun q => ha ((mem_dst _ _).mp q))] at h
  have h1 : (rangeI n)[(dst X).length]? = some a := by
    rw [← h, List.append_assoc, List.getElem?_append_right (Nat.le_refl _)]
    simp
  have hl : (dst X).length < n := by
    have := congrArg List.length h
    rw [rangeI_len] at this
    simp at this; omega
  rw [rangeI_get hl] at h1
  injection h1 with h1
  exact h1.symm
theorem inner {q q' : Plan} (r : Red q) (r' : Red q') {n n' : Nat} (hn : n = q.length) (hn' : n' = q'.length) : ∀ {as bs X ys ys' : List Int}, as.length = bs.length → (∀ t (h : t < as.length) (h' : t < bs.length), Same q (as[t]).toNat q' (bs[t]).toNat) →
    (∀ x ∈ X, Same q x.toNat q' x.toNat) → dst (X ++ as ++ ys) = rangeI n → dst (X ++ bs ++ ys') = rangeI n' → as = bs ∧ ∀ x ∈ X ++ as, Same q x.toNat q' x.toNat
  | [], [], X, ys, ys', _, _, hX, _, _ => ⟨rfl, by simpa using hX⟩
  | [], b :: bs, X, _, _, h, _, _, _, _ => by simp at h
  | a :: as, [], X, _, _, h, _, _, _, _ => by simp at h
  | a :: as, b :: bs, X, ys, ys', hl, hs, hX, e1, e2 => by
    have h0 := hs 0 (by simp) (by simp)
    simp only [List.getElem_cons_zero] at h0
    have ra : 0 ≤ a ∧ a < n := mem_rangeI.mp (by rw [← e1, mem_dst]; simp)
    have rb : 0 ≤ b ∧ b < n' := mem_rangeI.mp (by rw [← e2, mem_dst]; simp)
    have rX : ∀ x ∈ X, (0 ≤ x ∧ x < n) ∧ (0 ≤ x ∧ x < n') := fun x hx => ⟨mem_rangeI.mp (by rw [← e1, mem_dst]; simp [hx]), mem_rangeI.mp (by rw [← e2, mem_dst]; simp [hx])⟩
    have e : a = b := by
      by_cases ha : a ∈ X
      · have := r' a.toNat (by have := rX a ha; omega) b.toNat (by omega) ((hX a ha).symm.trans h0)
        omega
      · by_cases hb : b ∈ X
        · have := r a.toNat (by omega) b.toNat (by have := rX b hb; omega) (h0.trans (hX b hb).symm)
          omega
        · rw [List.append_assoc, List.cons_append] at e1 e2
          rw [prefix_new e1 ha, prefix_new e2 hb]
    subst e
    have ih := inner r r' hn hn' (as := as) (bs := bs) (X := X ++ [a]) (ys := ys) (ys' := ys') (by simpa using hl) (fun t h h' => by
      have := hs (t + 1) (by simpa using h) (by simpa using h')
      simpa using this) (fun x hx => by
      rcases List.mem_append.mp hx with hx | hx
      · exact hX x hx
      · rw [List.mem_singleton] at hx; subst hx; exact h0) (by simpa using e1) (by simpa using e2)
    refine ⟨by rw [ih.1], fun x hx => ih.2 x (by simpa using hx)⟩
/-! ### the numbered rooms are canonical -/
theorem flat_in {p : Plan} {gs re : List Int} (h : BI p gs re re.length) (k : Nat) : ∀ x ∈ 0 :: flat p (re.take k), gAt gs x ∈ re.map (gAt gs) := by
  intro x hx
  have e := h.eq
  rw [List.take_length] at e
  rw [e, dB_map, mem_dst]
  refine List.mem_map_of_mem ?_
  rcases List.mem_cons.mp hx with q | q
  · subst q; exact List.mem_cons_self
  · refine List.mem_cons_of_mem _ ?_
    obtain ⟨r, hr, hj⟩ := List.mem_flatMap.mp q
    exact List.mem_flatMap.mpr ⟨r, List.mem_of_mem_take hr, hj⟩
theorem posB_inj {gs re : List Int} {a b : Int} (ha : a ∈ re.map (gAt gs)) (hb : b ∈ re.map (gAt gs)) (h : posB gs re a = posB gs re b) : a = b := by
  obtain ⟨k1, e1, _⟩ := posB_at ha
  obtain ⟨k2, e2, _⟩ := posB_at hb
  rw [← e1, ← e2]
  simp only [h]
theorem fl_num (p : Plan) (gs re xs : List Int) : fl (xs.map fun r => (rm p r).map (setG fun j => posB gs re (gAt gs j))) = (flat p xs).map fun j => posB gs re (gAt gs j) := by
  unfold fl flat
  induction xs with
  | nil => rfl
  | cons x xs ih =>
    rw [List.map_cons, List.flatMap_cons, List.flatMap_cons, List.map_append, ih]
    congr 1
    unfold goals
    rw [List.map_map, List.map_map]; rfl
theorem num_can {p : Plan} {gs re : List Int} (h : BI p gs re re.length) : Can (numbered p gs re) := by
  obtain ⟨h0, e0⟩ := h.zero
  have nd := h.nodup
  have hp0 : posB gs re (gAt gs 0) = 0 := by
    unfold posB
    have : (re.map (gAt gs))[0]'(by simpa using h0) = gAt gs 0 := by simp [e0]
    rw [← this, nd.idxOf_getElem]; rfl
  have key : ∀ k, dst (0 :: fl ((numbered p gs re).take k)) = (dst ((0 :: flat p (re.take k)).map (gAt gs))).map (posB gs re) := by
    intro k
    have e : 0 :: fl ((numbered p gs re).take k) = ((0 :: flat p (re.take k)).map (gAt gs)).map (posB gs re) := by
      unfold numbered
      rw [← List.map_take, fl_num, List.map_cons, List.map_cons, hp0, List.map_map]; rfl
    rw [e]
    refine dst_injOn _ fun a ha b hb hab => ?_
    obtain ⟨x, hx, rfl⟩ := List.mem_map.mp ha
    obtain ⟨y, hy, rfl⟩ := List.mem_map.mp hb
    exact posB_inj (flat_in h k x hx) (flat_in h k y hy) hab
  refine ⟨?_, ?_, ?_⟩
  · intro q
    have := congrArg List.length q
    rw [numbered_len] at this
    rw [this] at h0
    simp at h0
  · have e := key (numbered p gs re).length
    rw [List.take_length, numbered_len] at e
    rw [e, List.take_length]
    have e1 := h.eq
    rw [List.take_length] at e1
    rw [← dB_map, ← e1, numbered_len]
    apply List.ext_getElem
    · simp [rangeI]
    · intro i h1 h2
      simp only [List.length_map] at h1
      have : gAt gs re[i] = (re.map (gAt gs))[i]'(by simpa using h1) := by simp
      simp only [List.getElem_map, rangeI, List.getElem_range]
      unfold posB
      rw [this, nd.idxOf_getElem]
  · intro k hk
    rw [numbered_len] at hk
    rw [key, List.length_map, ← dB_map, List.length_map]
    exact h.rc k hk
theorem num_same {p : Plan} (ht : Tgt p) (h0 : p ≠ []) {gs re : List Int} (hs : Stable p gs) (h : BI p gs re re.length) {k : Nat} (hk : k < re.length) : Same (numbered p gs re) k p (re[k]).toNat := fun ks => by
  have hr := h.range ht h0 re[k] (List.getElem_mem hk)
  exact (num_row ht h0 hs h ks re[k] k hk hr.1 hr.2 rfl).symm
theorem num_red {p : Plan} (ht : Tgt p) (h0 : p ≠ []) {gs re : List Int} (hs : Stable p gs) (hc : Coarse p gs) (h : BI p gs re re.length) : Red (numbered p gs re) := fun i hi j hj e => by
  rw [numbered_len] at hi hj
  have ri := h.range ht h0 re[i] (List.getElem_mem hi)
  have rj := h.range ht h0 re[j] (List.getElem_mem hj)
  have := hc (re[i]).toNat (by omega) (re[j]).toNat (by omega) (((num_same ht h0 hs h hi).symm.trans e).trans (num_same ht h0 hs h hj))
  rw [Int.toNat_of_nonneg ri.1, Int.toNat_of_nonneg rj.1] at this
  have nd := h.nodup
  have i1 : i < (re.map (gAt gs)).length := by simpa using hi
  have j1 : j < (re.map (gAt gs)).length := by simpa using hj
  exact (List.getElem_inj (h₀ := i1) (h₁ := j1) nd).mp (by simpa using this)
theorem num_keys {p : Plan} (ht : Tgt p) (h0 : p ≠ []) {gs re : List Int} (h : BI p gs re re.length) {r : Room} (hr : r ∈ numbered p gs re) : ∃ r' ∈ p, r.map kyOf = r'.map kyOf := by
  obtain ⟨x, hx, rfl⟩ := List.mem_map.mp hr
  have := h.range ht h0 x hx
  refine ⟨rm p x, rm_mem this.1 this.2, ?_⟩
  rw [List.map_map]; rfl
theorem num_tgt {p : Plan} (ht : Tgt p) (h0 : p ≠ []) {gs re : List Int} (h : BI p gs re re.length) : Tgt (numbered p gs re) := by
  intro r hr s hs
  obtain ⟨x, hx, rfl⟩ := List.mem_map.mp hr
  obtain ⟨y, hy, rfl⟩ := List.mem_map.mp hs
  have hg := h.has hx (List.mem_map_of_mem hy : goalOf y ∈ goals (rm p x))
  obtain ⟨k1, _, k2⟩ := posB_at hg
  rw [numbered_len]
  show 0 ≤ posB gs re (gAt gs (goalOf y)) ∧ posB gs re (gAt gs (goalOf y)) < re.length
  omega
end K

namespace K
open PySem L2 DL
local macro_rules | `(tactic| walk_at "dl") => `(tactic| with_reducible first
  | refine es_if ?_ | refine es_append ?_ | refine es_sub ?_ | refine es_par3 ?_ | refine es_parD ?_ | refine es_asg ?_ | refine es_ret ?_ | refine es_retN ?_ | refine es_next ?_ | refine es_drop ?_ | refine es_break ?_ | refine es_cont ?_
  | refine et_val ?_ | refine et_B ?_ | refine et_not ?_ | refine et_and ?_ | refine et_or ?_ | refine et_yes ?_
  | refine ev_op ?_ | refine ev_un ?_ | refine ev_cb ?_ | refine ev_tup ?_ | refine ev_lst ?_ | refine ev_ifx ?_ | refine ev_andV ?_ | refine ev_orV ?_ | refine ev_notV ?_ | refine ev_sl ?_
  | refine ea_cons ?_ | refine ea_nil ?_ | refine ev_int ?_ | refine ev_str ?_ | refine ev_bl ?_ | refine ev_non ?_ | refine eo_none ?_ | refine eo_some ?_
  | refine gts_cons ?_ | refine gts_nil ?_
  | refine o2_addI ?_ | refine o2_ltI ?_ | refine o2_leI ?_ | refine o2_gtI ?_ | refine o2_geI ?_ | refine o2_ltS ?_ | refine o2_leS ?_ | refine o2_gtS ?_ | refine o2_sub ?_
  | refine oa_intI ?_ | refine oa_intB ?_ | refine oa_abs ?_ | refine oa_two ?_ | refine ulen_R ?_ | refine ulen_T ?_ | refine ulen_L LstV.d ?_
  | (refine ⟨_, Pu.d, ?_⟩) | (refine ⟨_, Pu.ptr, ?_⟩) | (refine ⟨_, Pu.fr, ?_⟩))
local macro_rules | `(tactic| walk_at "dv") => `(tactic| first
  | refine ev_var (by rfl) ?_ | refine ev_ptr (.inl (by rfl)) ?_ | refine ev_ptr (.inr (.inl (by rfl))) ?_ | refine ev_ptr (.inr (.inr (by rfl))) ?_
  | refine uix_L (LstV.o ⟨0, .inr (by rfl)⟩) (by rfl) ?_ | refine uix_L LstV.d (by rfl) ?_ | refine uix_T (by rfl) ?_
  | refine gt_tup (by rfl) ?_ | refine gt_name (by first | exact all_in | simp) ?_ | refine ⟨_, rfl, ?_⟩)
local macro_rules | `(tactic| walk_at "e") => `(tactic| repeat (first | walk_at "dl" | walk_at "dv"))
local macro_rules | `(tactic| walk_at "d") => `(tactic| repeat (first | with_reducible refine es_seq ?_ | walk_at "dl" | walk_at "dv"))
section
variable {P : Program} {w : World} {K : PySem.W.Frag} {mg : Str → Option Value} {base : Heap}
abbrev s_alike_groups : Stmt := topS 11
abbrev N_alike_groups : List Str := ["rooms", "groups", "finer"]
theorem sc_alike_groups : FnScope N_alike_groups ["rooms"] (defScope s_alike_groups) := ⟨rfl, rfl, rfl, by decide +kernel, rfl, by decide +kernel, by decide +kernel⟩

def SAlike : List T → (RT → Prop) → Prop := fun ts P => ∃ p : Plan, p ≠ [] ∧ p.length < sizeLine ∧ (∀ r ∈ p, r.length < sizeLine) ∧ Tgt p ∧ ts = [ePlan p] ∧
  ∀ gs : List Int, gs.length = p.length → Stable p gs → (KeySame p → NodK p → Coarse p gs) → P (.d (.lst (gs.map T.int)))
theorem ok_alike {f : Addr} {fd : FuncData} (Fn : Fun K "alike_groups" "alike_groups" s_alike_groups f fd) (TX : TXF mg) (C_split_groups : Cal P w K mg base CX0 "split_groups" 1 ["rooms", "groups"] (spP ⟨P, w, K⟩ SSplit)) : FnOk P w K mg base CX0 2 f fd ["rooms"] (spP ⟨P, w, K⟩ SAlike) := by
  refine Fn.ok sc_alike_groups (fun vs H Q E h => ?_) (fun cdv A outer s H vs Q E hr h => ?_)
  · obtain ⟨F, ts, _, hd, P, ⟨_, _, _, _, _, rfl, _⟩, _⟩ := h
    rw [hd.length]; rfl
  · obtain ⟨F, ts, fh, hd, PP, ⟨p, hp0, hp1, hp2, ht, rfl, hk⟩, q⟩ := h
    have hu := hr.units
    have hz : sizeLine < 2 ^ 62 := by decide +kernel
    have hpl : 0 < p.length := List.length_pos_iff.mpr hp0
    have hsp : ∀ r ∈ p, r.length < sizeLine ∧ ∀ s ∈ r, 0 ≤ goalOf s ∧ goalOf s < p.length := fun r hr => ⟨hp2 r hr, ht r hr⟩
    refine ⟨_, (pss_cons (ps_set (i := 1) sc_alike_groups.nd rfl (Or.inl rfl) (pe_op op_rep (pe_lst (pa_cons pe_int pa_nil)) (pe_callB (call_lenB ⟨P, w, K⟩ rfl hu) (by rfl) TX.n_len (by decide +kernel) (pa_cons (pv 0) pa_nil))))
    (pss_cons (ps_set (i := 2) sc_alike_groups.nd rfl (Or.inl rfl) (pe_call C_split_groups.ok (hr.mono (by decide)) (by rfl) C_split_groups.mg C_split_groups.kp C_split_groups.bd .nil pass0 (pa_cons (pv 0) (pa_cons (pv 1) pa_nil))))
    (pss_cons (ps_while PassesOwn.never (pt_cmpR op_uGt (pe_callB (call_maxB ⟨P, w, K⟩ rfl rfl) (by rfl) TX.n_max (by decide +kernel) (pa_cons (pv 2) pa_nil)) (pe_callB (call_maxB ⟨P, w, K⟩ rfl rfl) (by rfl) TX.n_max (by decide +kernel) (pa_cons (pv 1) pa_nil)) (nomark _)) (pss_cons (ps_set (i := 1) sc_alike_groups.nd rfl (Or.inl rfl) (pv 2))
    (pss_one (ps_set (i := 2) sc_alike_groups.nd rfl (Or.inl rfl) (pe_call C_split_groups.ok (hr.mono (by decide)) (by rfl) C_split_groups.mg C_split_groups.kp C_split_groups.bd .nil pass0 (pa_cons (pv 0) (pa_cons (pv 1) pa_nil)))))))
    (pss_one (ps_ret (pv 1)))))), ?_⟩
    refine run_P (n := 2) fh hd rfl q ?_
    dsimp only [cxOf]
    refine es_seq ?_
    walk_at "e"
    refine ⟨[.int 0], rfl, (show 1 ≤ sizeLine by decide), fun p1 => ⟨_, Pu.fr, ?_⟩⟩
    walk_at "e"
    refine o2_rep LstV.d (n := (p.map eRoom).length) (by rw [List.length_map]; show 1 * p.length ≤ sizeLine; omega) (by rw [List.length_map]; omega) fun p2 => ?_
    walk_at "e"
    have e0 : (List.replicate (p.map eRoom).length [T.int 0]).flatten = (List.replicate p.length (0 : Int)).map T.int := by
      rw [List.length_map]
      generalize p.length = n
      induction n with
      | zero => rfl
      | succ n ih => rw [List.replicate_succ, List.replicate_succ, List.flatten_cons, ih]; rfl
    rw [e0]
    refine es_frz (i := 1) rfl rfl ?_
    refine es_seq ?_
    walk_at "e"
    refine ev_callPn ?_
    walk_at "e"
    refine ⟨[ePlan p, .lst ((List.replicate p.length (0 : Int)).map T.int)], rfl, p, _, by simp, hp1, hsp, rfl, fun p3 => ?_⟩
    walk_at "e"
    refine es_seq ?_
    refine es_while (fun m δ => ∃ (gs : List Int) (a : Addr), gs.length = p.length ∧ MaxOk gs ∧ Finer p.length (splitG p gs) gs ∧ (KeySame p → NodK p → Coarse p gs) ∧ m = p.length - (dst gs).length ∧ δ = [.d (ePlan p), .d (.lst (gs.map T.int)), .own a (.lst ((splitG p gs).map T.int))]) _ ⟨_, _, by simp, zero_max _ hpl, zero_finer _ _ _, fun _ _ => zero_coarse _ _, rfl, rfl⟩ ?_
    rintro m δ ⟨gs, a, hgl, hmx, hfin, hco, rfl, rfl⟩
    have hsl : (splitG p gs).length = p.length := split_len p gs
    walk_at "e"
    refine oa_max (ns := splitG p gs) (LstV.o ⟨2, .inl rfl⟩) (by omega) fun m1 hm1 ha1 => ?_
    walk_at "e"
    refine oa_max (ns := gs) LstV.d (by omega) fun m2 hm2 ha2 => ?_
    walk_at "e"
    have k1 := split_max p gs m1 hm1 ha1
    have k2 := hmx m2 hm2 ha2
    refine ite2 (fun h => ?_) (fun h => ?_)
    · have h : m2 < m1 := by simpa using h
      refine es_frz (i := 2) rfl rfl ?_
      walk_at "d"
      refine ev_callPn ?_
      walk_at "d"
      refine ⟨[ePlan p, .lst ((splitG p gs).map T.int)], rfl, p, _, split_len p gs, hp1, hsp, rfl, fun p4 => ?_⟩
      walk_at "d"
      have hd1 := dst_len (splitG p gs)
      exact ⟨_, by omega, splitG p gs, p4, split_len p gs, split_max p gs, split_finer ht hfin, fun h1 h2 => split_coarse ht h1 h2 (hco h1 h2), rfl, rfl⟩
    · have h : ¬ m2 < m1 := by simpa using h
      walk_at "e"
      exact hk gs hgl (stable_of hgl hfin (by omega)) hco
end
end K

namespace K
open PySem L2 DL
local macro_rules | `(tactic| walk_at "dl") => `(tactic| with_reducible first
  | refine es_if ?_ | refine es_append ?_ | refine es_sub ?_ | refine es_par3 ?_ | refine es_parD ?_ | refine es_asg ?_ | refine es_ret ?_ | refine es_retN ?_ | refine es_next ?_ | refine es_drop ?_ | refine es_break ?_ | refine es_cont ?_
  | refine et_val ?_ | refine et_B ?_ | refine et_not ?_ | refine et_and ?_ | refine et_or ?_ | refine et_yes ?_
  | refine ev_op ?_ | refine ev_un ?_ | refine ev_cb ?_ | refine ev_tup ?_ | refine ev_lst ?_ | refine ev_ifx ?_ | refine ev_andV ?_ | refine ev_orV ?_ | refine ev_notV ?_ | refine ev_sl ?_
  | refine ea_cons ?_ | refine ea_nil ?_ | refine ev_int ?_ | refine ev_str ?_ | refine ev_bl ?_ | refine ev_non ?_ | refine eo_none ?_ | refine eo_some ?_
  | refine gts_cons ?_ | refine gts_nil ?_
  | refine o2_addI ?_ | refine o2_ltI ?_ | refine o2_leI ?_ | refine o2_gtI ?_ | refine o2_geI ?_ | refine o2_ltS ?_ | refine o2_leS ?_ | refine o2_gtS ?_ | refine o2_sub ?_
  | refine oa_intI ?_ | refine oa_intB ?_ | refine oa_abs ?_ | refine oa_two ?_ | refine ulen_R ?_ | refine ulen_T ?_ | refine ulen_L LstV.d ?_
  | (refine ⟨_, Pu.d, ?_⟩) | (refine ⟨_, Pu.ptr, ?_⟩) | (refine ⟨_, Pu.fr, ?_⟩))
local macro_rules | `(tactic| walk_at "dv") => `(tactic| first
  | refine ev_var (by rfl) ?_ | refine ev_ptr (.inl (by rfl)) ?_ | refine ev_ptr (.inr (.inl (by rfl))) ?_ | refine ev_ptr (.inr (.inr (by rfl))) ?_
  | refine uix_L (LstV.o ⟨0, .inr (by rfl)⟩) (by rfl) ?_ | refine uix_L LstV.d (by rfl) ?_ | refine uix_T (by rfl) ?_
  | refine gt_tup (by rfl) ?_ | refine gt_name (by first | exact all_in | simp) ?_ | refine ⟨_, rfl, ?_⟩)
local macro_rules | `(tactic| walk_at "e") => `(tactic| repeat (first | walk_at "dl" | walk_at "dv"))
local macro_rules | `(tactic| walk_at "d") => `(tactic| repeat (first | with_reducible refine es_seq ?_ | walk_at "dl" | walk_at "dv"))
section
variable {P : Program} {w : World} {K : PySem.W.Frag} {mg : Str → Option Value} {base : Heap}
abbrev s_numbered_rooms : Stmt := topS 13
abbrev N_numbered_rooms : List Str := ["rooms", "groups", "numbers", "reached", "at", "steps", "step", "group", "index", "sign", "line", "word", "room"]
theorem sc_numbered_rooms : FnScope N_numbered_rooms ["rooms", "groups"] (defScope s_numbered_rooms) := ⟨rfl, rfl, rfl, by decide +kernel, rfl, by decide +kernel, by decide +kernel⟩

theorem atI_int {l : List T} {j : Int} {t : T} (h0 : 0 ≤ j) (h : l[j.toNat]? = some t) : atI l j = some t := by
  obtain ⟨n, rfl⟩ := Int.eq_ofNat_of_zero_le h0
  exact atI_nat (by simpa using h)
theorem gs_at {gs : List Int} {j : Int} (h0 : 0 ≤ j) (h1 : j < gs.length) : atI (gs.map T.int) j = some (.int (gAt gs j)) := by
  refine atI_int h0 ?_
  have : j.toNat < gs.length := by omega
  unfold gAt; simp [this]
theorem rm_at {p : Plan} {j : Int} (h0 : 0 ≤ j) (h1 : j < p.length) : atI (p.map eRoom) j = some (eRoom (rm p j)) := by
  refine atI_int h0 ?_
  rw [List.getElem?_map, rm_get h0 h1]; rfl
theorem putM_new {α β : Type} [DecidableEq α] {m : List (α × β)} {a : α} {b : β} (h : getM m a = none) : putM m a b = m ++ [(a, b)] := by unfold putM; rw [h]; rfl
def SNumbered : List T → (RT → Prop) → Prop := fun ts P => ∃ (p : Plan) (gs : List Int), p ≠ [] ∧ p.length < sizeLine ∧ (∀ r ∈ p, r.length < sizeLine) ∧ Tgt p ∧ gs.length = p.length ∧ ts = [ePlan p, .lst (gs.map T.int)] ∧
  ∀ re, BI p gs re re.length → P (.new (.lst ((numbered p gs re).map eRoom)))
theorem ok_numbered {f : Addr} {fd : FuncData} (Fn : Fun K "numbered_rooms" "numbered_rooms" s_numbered_rooms f fd) (TX : TXF mg) : FnOk P w K mg base CX0 1 f fd ["rooms", "groups"] (spP ⟨P, w, K⟩ SNumbered) := by
  refine Fn.ok sc_numbered_rooms (fun vs H Q E h => ?_) (fun cdv A outer s H vs Q E hr h => ?_)
  · obtain ⟨F, ts, _, hd, P, ⟨_, _, _, _, _, _, _, rfl, _⟩, _⟩ := h
    rw [hd.length]; rfl
  · obtain ⟨F, ts, fh, hd, PP, ⟨p, gs, hp0, hp1, hp2, ht, hgl, rfl, hk⟩, q⟩ := h
    have hu := hr.units
    have hz : sizeLine < 2 ^ 62 := by decide +kernel
    have hpl : 0 < p.length := List.length_pos_iff.mpr hp0
    refine ⟨_, (pss_cons (ps_set (i := 2) sc_numbered_rooms.nd rfl (Or.inr rfl) (pe_disp (pps_cons (pe_ix (ix_B ⟨P, w, K⟩ rfl hu) (pv 1) pe_int (fun _ _ => rfl)) pe_int pps_nil) rfl rfl (by decide) (by decide)))
    (pss_cons (ps_set (i := 3) sc_numbered_rooms.nd rfl (Or.inl rfl) (pe_lst (pa_cons pe_int pa_nil)))
    (pss_cons (ps_set (i := 4) sc_numbered_rooms.nd rfl (Or.inl rfl) pe_int)
    (pss_cons (ps_while PassesOwn.never (pt_cmpR op_uLt (pv 4) (pe_callB (call_lenB ⟨P, w, K⟩ rfl hu) (by rfl) TX.n_len (by decide +kernel) (pa_cons (pv 3) pa_nil)) (nomark _)) (pss_cons (ps_set (i := 5) sc_numbered_rooms.nd rfl (Or.inl rfl) (pe_ix (ix_B ⟨P, w, K⟩ rfl hu) (pv 0) (pe_ix (ix_B ⟨P, w, K⟩ rfl hu) (pv 3) (pv 4) (fun _ _ => rfl)) (fun _ _ => rfl)))
    (pss_cons (ps_for PassesOwn.never rfl (pi_listB ⟨P, w, K⟩ rfl (pv 5)) (pg_name (i := 6) sc_numbered_rooms.nd rfl (Or.inl rfl)) (pss_cons (ps_set (i := 7) sc_numbered_rooms.nd rfl (Or.inl rfl) (pe_ix (ix_B ⟨P, w, K⟩ rfl hu) (pv 1) (pe_ix (ix_B ⟨P, w, K⟩ rfl hu) (pv 6) pe_int (fun _ _ => rfl)) (fun _ _ => rfl)))
    (pss_one (ps_if (pt_cmpR (op_notInB ⟨P, w, K⟩ rfl hu) (pv 7) (pv 2) (by with_unfolding_all rfl)) (pss_cons (ps_asg (pe_callB (call_lenB ⟨P, w, K⟩ rfl hu) (by rfl) TX.n_len (by decide +kernel) (pa_cons (pv 2) pa_nil)) (pg_sub (pv 2) (pv 7) (set_B ⟨P, w, K⟩ rfl hu)))
    (pss_one (ps_expr (pe_bm PySem.F.plainAttrs_list PySem.F.slot_list_append PySem.F.type_list_append mt_append (pv 3) (pa_cons (pe_ix (ix_B ⟨P, w, K⟩ rfl hu) (pv 6) pe_int (fun _ _ => rfl)) pa_nil))))) pss_nil))))
    (pss_one (ps_aug (i := 4) sc_numbered_rooms.nd rfl (Or.inl rfl) pe_int ip_add)))))
    (pss_one (ps_ret (pe_lc (own := [("index", 8)]) (by rfl) sc_numbered_rooms.nd (pi_listB ⟨P, w, K⟩ rfl (pv 3)) (blkOk_by (N := N_numbered_rooms) (sc := defScope s_numbered_rooms) (by decide +kernel)) (fun _ _ _ _ _ => (pg_name (i := 8) sc_numbered_rooms.nd rfl (Or.inl rfl))) (fun _ _ _ _ _ => pts_nil) (fun _ _ _ _ _ => (pe_lc (own := [("sign", 9), ("line", 10), ("word", 11), ("room", 12)]) (by rfl) sc_numbered_rooms.nd (pi_listB ⟨P, w, K⟩ rfl (pe_ix (ix_B ⟨P, w, K⟩ rfl hu) (pv 0) (pv 8) (fun _ _ => rfl))) (blkOk_by (N := N_numbered_rooms) (sc := _) (by rfl)) (fun _ _ _ _ _ => (pg_tupB ⟨P, w, K⟩ rfl 4 rfl (pgs_cons (pg_name (i := 9) sc_numbered_rooms.nd rfl (Or.inl rfl)) (pgs_cons (pg_name (i := 10) sc_numbered_rooms.nd rfl (Or.inl rfl)) (pgs_cons (pg_name (i := 11) sc_numbered_rooms.nd rfl (Or.inl rfl)) (pgs_cons (pg_name (i := 12) sc_numbered_rooms.nd rfl (Or.inl rfl)) pgs_nil)))))) (fun _ _ _ _ _ => pts_nil) (fun _ _ _ _ _ => (pe_tup (pa_cons (pv 9) (pa_cons (pv 10) (pa_cons (pv 11) (pa_cons (pe_ix (ix_B ⟨P, w, K⟩ rfl hu) (pv 2) (pe_ix (ix_B ⟨P, w, K⟩ rfl hu) (pv 1) (pv 12) (fun _ _ => rfl)) (fun _ _ => rfl)) pa_nil))))))))))))))), ?_⟩
    refine run_P (n := 11) fh hd rfl q ?_
    dsimp only [cxOf]
    refine es_seq ?_
    walk_at "e"
    refine ev_disp1 intA T.int ?_
    walk_at "e"
    refine uix_L LstV.d (gs_at (j := 0) (by decide) (by omega)) ?_
    refine ⟨gAt gs 0, rfl, ?_⟩
    walk_at "e"
    intro a
    walk_at "e"
    refine es_seq ?_
    walk_at "e"
    refine ⟨[.int 0], rfl, (show 1 ≤ sizeLine by decide), fun b => ?_⟩
    walk_at "e"
    refine es_seq ?_
    walk_at "e"
    refine es_seqJ (fun δ => ∃ (re : List Int) (x5 x6 x7 x4 : SV), BI p gs re re.length ∧ δ = [.d (ePlan p), .d (.lst (gs.map T.int)), .own a (.K intA T.int (numD (re.map (gAt gs)))), .own b (.lst (re.map T.int)), x4, x5, x6, x7, .no, .no, .no, .no, .no]) ?_ ?_
    · refine es_while (fun m δ => ∃ (re : List Int) (i : Nat) (x5 x6 x7 : SV), BI p gs re i ∧ m = p.length - i ∧ δ = [.d (ePlan p), .d (.lst (gs.map T.int)), .own a (.K intA T.int (numD (re.map (gAt gs)))), .own b (.lst (re.map T.int)), .d (.int i), x5, x6, x7, .no, .no, .no, .no, .no]) _ ⟨[0], 0, _, _, _, BI.start p gs, rfl, rfl⟩ ?_
      rintro m δ ⟨re, i, x5, x6, x7, hb, rfl, rfl⟩
      have hrl := hb.len ht hp0
      walk_at "e"
      refine ulen_L (LstV.o ⟨3, .inl rfl⟩) ?_
      walk_at "e"
      refine ite2 (fun h => ?_) (fun h => ?_)
      · have hi : i < re.length := by simpa using h
        have hri := hb.range ht hp0 re[i] (List.getElem_mem hi)
        have hrmem := rm_mem hri.1 hri.2
        obtain ⟨hnx, zs, hzs⟩ := hb.next hi
        refine es_seq ?_
        walk_at "e"
        refine uix_L (LstV.o ⟨3, .inl rfl⟩) (t := .int re[i]) (atI_nat (by simp [hi])) ?_
        walk_at "e"
        refine uix_L LstV.d (rm_at hri.1 hri.2) ?_
        walk_at "e"
        refine es_seqJ (fun δ => ∃ (x6 x7 : SV), δ = [.d (ePlan p), .d (.lst (gs.map T.int)), .own a (.K intA T.int (numD (((goals (rm p re[i])).foldl (addR gs) re).map (gAt gs)))), .own b (.lst (((goals (rm p re[i])).foldl (addR gs) re).map T.int)), .d (.int i), .d (eRoom (rm p re[i])), x6, x7, .no, .no, .no, .no, .no]) ?_ ?_
        · refine es_forI (ei_L ?_)
          walk_at "e"
          refine ⟨fun j δ => ∃ (x6 x7 : SV), δ = [.d (ePlan p), .d (.lst (gs.map T.int)), .own a (.K intA T.int (numD (((goals ((rm p re[i]).take j)).foldl (addR gs) re).map (gAt gs)))), .own b (.lst (((goals ((rm p re[i]).take j)).foldl (addR gs) re).map T.int)), .d (.int i), .d (eRoom (rm p re[i])), x6, x7, .no, .no, .no, .no, .no], ⟨_, _, rfl⟩, fun _ _ _ => trivial, ?_, ?_⟩
          · rintro j t δ htj ⟨x6, x7, rfl⟩
            rw [List.getElem?_map] at htj
            obtain ⟨st, hst, rfl⟩ := Option.map_eq_some_iff.mp htj
            have hgl2 := ht _ hrmem st (List.mem_of_getElem? hst)
            have hstep : (goals ((rm p re[i]).take (j + 1))).foldl (addR gs) re = addR gs ((goals ((rm p re[i]).take j)).foldl (addR gs) re) (goalOf st) := by
              rw [List.take_add_one, hst]
              unfold goals
              rw [List.map_append, List.foldl_append]; rfl
            have hlen : ((goals ((rm p re[i]).take j)).foldl (addR gs) re).length < sizeLine := by
              have h1 := hnx.len ht hp0
              have h2 : ((goals ((rm p re[i]).take j)).foldl (addR gs) re).length ≤ ((goals (rm p re[i])).foldl (addR gs) re).length := by
                have e1 : goals (rm p re[i]) = goals ((rm p re[i]).take j) ++ goals ((rm p re[i]).drop j) := by
                  unfold goals; rw [← List.map_append, List.take_append_drop]
                rw [e1, List.foldl_append]
                generalize (goals ((rm p re[i]).take j)).foldl (addR gs) re = u
                generalize goals ((rm p re[i]).drop j) = v
                induction v generalizing u with
                | nil => exact Nat.le_refl _
                | cons x v ih =>
                  rw [List.foldl_cons]
                  refine Nat.le_trans ?_ (ih _)
                  unfold addR; split
                  · exact Nat.le_refl _
                  · rw [List.length_append]; omega
              omega
            generalize (goals ((rm p re[i]).take j)).foldl (addR gs) re = u at hlen hstep
            obtain ⟨s1, s2, s3, s4⟩ := st
            unfold eS
            dsimp only
            have g0 : 0 ≤ s4 := hgl2.1
            have g1 : s4 < p.length := hgl2.2
            walk_at "d"
            refine uix_L LstV.d (gs_at g0 (by omega)) ?_
            walk_at "d"
            refine uni_K (ka := intA) (ev := T.int) (k := gAt gs s4) (m := numD (u.map (gAt gs))) (DckV.o ⟨2, .inl rfl⟩) ?_
            refine ⟨_, rfl, ?_⟩
            by_cases hin : gAt gs s4 ∈ u.map (gAt gs)
            · obtain ⟨z, hs⟩ : ∃ z, getM (numD (u.map (gAt gs))) (gAt gs s4) = some z := ⟨_, by rw [getM_numD, if_pos hin]⟩
              rw [hs]
              have hstep := hstep.trans (if_pos hin)
              refine ite2 (fun h => nomatch h) (fun _ => ?_)
              walk_at "d"
              refine ⟨.d (eS (s1, s2, s3, s4)), .d (.int (gAt gs s4)), ?_⟩
              rw [hstep]; rfl
            · have hs : getM (numD (u.map (gAt gs))) (gAt gs s4) = none := by rw [getM_numD, if_neg hin]
              rw [hs]
              have hstep := hstep.trans (if_neg hin)
              refine ite2 (fun _ => ?_) (fun h => absurd rfl h)
              walk_at "d"
              refine ulen_K (ka := intA) (ev := T.int) (m := numD (u.map (gAt gs))) (DckV.o ⟨2, .inl rfl⟩) ?_
              walk_at "d"
              refine o3_K (ka := intA) (ev := T.int) (k := gAt gs s4) (x := ((numD (u.map (gAt gs))).length : Int)) (m := numD (u.map (gAt gs))) 2 rfl (by rw [numD_len, List.length_map]; exact hlen) ?_
              walk_at "d"
              refine ⟨⟨_, 3, .inl rfl⟩, ?_⟩
              walk_at "d"
              refine appO 3 (ts := u.map T.int) rfl (by rw [List.length_map]; exact hlen) ?_
              refine ⟨.d (eS (s1, s2, s3, s4)), .d (.int (gAt gs s4)), ?_⟩
              rw [hstep, putM_new hs, List.map_append, List.map_cons, List.map_nil, numD_snoc, numD_len, List.map_append]
              rfl
          · rintro δ ⟨x6, x7, rfl⟩
            rw [List.length_map, List.take_length]
            exact ⟨_, _, rfl⟩
        · rintro δ ⟨x6, x7, rfl⟩
          refine es_augI (x := i) rfl ?_
          walk_at "d"
          exact ⟨_, by have := hnx.len ht hp0; have := hnx.le; omega, _, i + 1, _, _, _, hnx, rfl, rfl⟩
      · have hi : ¬ i < re.length := by simpa using h
        have := hb.le
        have e : i = re.length := by omega
        subst e
        exact ⟨re, _, _, _, _, hb, rfl⟩
    · rintro δ ⟨re, x5, x6, x7, x4, hb, rfl⟩
      have hrl := hb.len ht hp0
      walk_at "e"
      refine ev_lcI (ei_O ?_)
      walk_at "e"
      refine ⟨b, _, rfl, ⟨3, .inl rfl⟩, by rw [List.length_map]; omega, fun i acc δ => acc = ((re.take i).map fun r => (rm p r).map (setG fun j => posB gs re (gAt gs j))).map eRoom ∧ δ = [.d (ePlan p), .d (.lst (gs.map T.int)), .own a (.K intA T.int (numD (re.map (gAt gs)))), .own b (.lst (re.map T.int)), x4, x5, x6, x7, .no, .no, .no, .no, .no], ⟨by simp, rfl⟩, ?_, ?_, ?_⟩
      · rintro i acc δ ⟨_, rfl⟩; exact ⟨3, .inl rfl⟩
      · rintro i t acc δ hti _ ⟨rfl, rfl⟩
        rw [List.getElem?_map] at hti
        obtain ⟨r, hr', rfl⟩ := Option.map_eq_some_iff.mp hti
        have hrr := hb.range ht hp0 r (List.mem_of_getElem? hr')
        have hrmem := rm_mem hrr.1 hrr.2
        walk_at "d"
        refine ite2 (fun _ => ?_) (fun h => nomatch h)
        refine ev_lcI (ei_L ?_)
        walk_at "d"
        refine uix_L LstV.d (rm_at hrr.1 hrr.2) ?_
        walk_at "d"
        refine ⟨by rw [List.length_map]; exact Nat.le_of_lt (hp2 _ hrmem), fun j acc δ => acc = (((rm p r).take j).map (setG fun j => posB gs re (gAt gs j))).map eS ∧ δ = [.d (ePlan p), .d (.lst (gs.map T.int)), .own a (.K intA T.int (numD (re.map (gAt gs)))), .own b (.lst (re.map T.int)), x4, x5, x6, x7, .d (.int r), .no, .no, .no, .no], ⟨by simp, rfl⟩, fun _ _ _ _ => trivial, ?_, ?_⟩
        · rintro j t acc δ htj _ ⟨rfl, rfl⟩
          rw [List.getElem?_map] at htj
          obtain ⟨⟨s1, s2, s3, s4⟩, hst, rfl⟩ := Option.map_eq_some_iff.mp htj
          have hs4 := ht _ hrmem _ (List.mem_of_getElem? hst)
          have g0 : 0 ≤ s4 := hs4.1
          have g1 : s4 < p.length := hs4.2
          have hin := hb.has (List.mem_of_getElem? hr') (List.mem_map_of_mem (f := goalOf) (List.mem_of_getElem? hst))
          unfold eS
          dsimp only
          walk_at "d"
          refine ite2 (fun _ => ?_) (fun h => nomatch h)
          walk_at "d"
          refine uix_L LstV.d (gs_at g0 (by omega)) ?_
          walk_at "d"
          refine uix_K (ka := intA) (ev := T.int) (k := gAt gs s4) (b := posB gs re (gAt gs s4)) (m := numD (re.map (gAt gs))) (DckV.o ⟨2, .inl rfl⟩) (by rw [getM_numD, if_pos (show gAt gs s4 ∈ re.map (gAt gs) from hin)]; rfl) ?_
          walk_at "d"
          refine ⟨[.str s1, .str s2, .str s3, .int (posB gs re (gAt gs s4))], rfl, (show 4 ≤ sizeLine by decide), ?_⟩
          walk_at "d"
          refine ⟨?_, rfl⟩
          rw [List.take_add_one, hst]; simp [setG, eS, goalOf]
        · rintro acc δ _ ⟨rfl, rfl⟩ p2
          rw [List.length_map, List.take_length]
          refine ⟨_, Pu.fr, ?_, rfl⟩
          rw [List.take_add_one, hr']; simp [eRoom]
      · rintro acc δ _ ⟨rfl, rfl⟩ p3
        rw [List.length_map, List.take_length]
        exact hk re hb
end
end K

namespace K
open PySem L2 DL
local macro_rules | `(tactic| walk_at "dl") => `(tactic| with_reducible first
  | refine es_if ?_ | refine es_append ?_ | refine es_sub ?_ | refine es_par3 ?_ | refine es_parD ?_ | refine es_asg ?_ | refine es_ret ?_ | refine es_retN ?_ | refine es_next ?_ | refine es_drop ?_ | refine es_break ?_ | refine es_cont ?_
  | refine et_val ?_ | refine et_B ?_ | refine et_not ?_ | refine et_and ?_ | refine et_or ?_ | refine et_yes ?_
  | refine ev_op ?_ | refine ev_un ?_ | refine ev_cb ?_ | refine ev_tup ?_ | refine ev_lst ?_ | refine ev_ifx ?_ | refine ev_andV ?_ | refine ev_orV ?_ | refine ev_notV ?_ | refine ev_sl ?_
  | refine ea_cons ?_ | refine ea_nil ?_ | refine ev_int ?_ | refine ev_str ?_ | refine ev_bl ?_ | refine ev_non ?_ | refine eo_none ?_ | refine eo_some ?_
  | refine gts_cons ?_ | refine gts_nil ?_
  | refine o2_addI ?_ | refine o2_ltI ?_ | refine o2_leI ?_ | refine o2_gtI ?_ | refine o2_geI ?_ | refine o2_ltS ?_ | refine o2_leS ?_ | refine o2_gtS ?_ | refine o2_sub ?_
  | refine oa_intI ?_ | refine oa_intB ?_ | refine oa_abs ?_ | refine oa_two ?_ | refine ulen_R ?_ | refine ulen_T ?_ | refine ulen_L LstV.d ?_
  | (refine ⟨_, Pu.d, ?_⟩) | (refine ⟨_, Pu.ptr, ?_⟩) | (refine ⟨_, Pu.fr, ?_⟩))
local macro_rules | `(tactic| walk_at "dv") => `(tactic| first
  | refine ev_var (by rfl) ?_ | refine ev_ptr (.inl (by rfl)) ?_ | refine ev_ptr (.inr (.inl (by rfl))) ?_ | refine ev_ptr (.inr (.inr (by rfl))) ?_
  | refine uix_L (LstV.o ⟨0, .inr (by rfl)⟩) (by rfl) ?_ | refine uix_L LstV.d (by rfl) ?_ | refine uix_T (by rfl) ?_
  | refine gt_tup (by rfl) ?_ | refine gt_name (by first | exact all_in | simp) ?_ | refine ⟨_, rfl, ?_⟩)
local macro_rules | `(tactic| walk_at "e") => `(tactic| repeat (first | walk_at "dl" | walk_at "dv"))
local macro_rules | `(tactic| walk_at "d") => `(tactic| repeat (first | with_reducible refine es_seq ?_ | walk_at "dl" | walk_at "dv"))
section
variable {P : Program} {w : World} {K : PySem.W.Frag} {mg : Str → Option Value} {base : Heap}
abbrev s_least_rooms : Stmt := topS 10
abbrev N_least_rooms : List Str := ["rooms", "ordered", "steps"]
theorem sc_least_rooms : FnScope N_least_rooms ["rooms"] (defScope s_least_rooms) := ⟨rfl, rfl, rfl, by decide +kernel, rfl, by decide +kernel, by decide +kernel⟩

theorem units66 {k : Nat} {A : Around} (r : L2.Room k A) : A.units + 66 < cLine := by have := r.un; omega
def srt (r : Room) : Room := r.mergeSort fun a b => PySem.W.dataLe false dS a b
def ordered (p : Plan) : Plan := p.map srt
theorem srt_perm (r : Room) : (srt r).Perm r := List.mergeSort_perm _ _
theorem ordered_len (p : Plan) : (ordered p).length = p.length := by simp [ordered]
theorem ordered_mem {p : Plan} {r : Room} (h : r ∈ ordered p) : ∃ r' ∈ p, r.Perm r' := by
  obtain ⟨r', hr, rfl⟩ := List.mem_map.mp h
  exact ⟨r', hr, srt_perm r'⟩
theorem ordered_tgt {p : Plan} (h : GoodPlan p) : Tgt (ordered p) := fun r hr s hs => by
  obtain ⟨r', hr', hp⟩ := ordered_mem hr
  have := ((h.2 r' hr').2.1 s (hp.mem_iff.mp hs)).2.2.2
  rw [ordered_len]; exact this
theorem ordered_nodk {p : Plan} (h : GoodPlan p) : NodK (ordered p) := fun r hr => by
  obtain ⟨r', hr', hp⟩ := ordered_mem hr
  exact (hp.map kyOf).nodup_iff.mpr (h.2 r' hr').2.2
/-- the least rooms of p as the program finds them -/
structure LeastOf (p q : Plan) : Prop where
  ex : ∃ gs re, gs.length = p.length ∧ Stable (ordered p) gs ∧ (KeySame (ordered p) → Coarse (ordered p) gs) ∧ BI (ordered p) gs re re.length ∧ q = numbered (ordered p) gs re
theorem LeastOf.rows {p q : Plan} (h : LeastOf p q) (hg : GoodPlan p) (h0 : p ≠ []) (ks : List K3) : goRow q 0 ks = goRow p 0 ks := by
  obtain ⟨gs, re, _, hs, _, hb, rfl⟩ := h.ex
  have h0' : ordered p ≠ [] := fun e => h0 (List.map_eq_nil_iff.mp e)
  rw [num_rows (ordered_tgt hg) h0' hs hb]
  exact row_perm (fun r _ => srt_perm r) (fun r hr => (hg.2 r hr).2.2) ks 0
theorem LeastOf.good {p q : Plan} (h : LeastOf p q) (hg : GoodPlan p) (h0 : p ≠ []) : GoodPlan q ∧ q ≠ [] ∧ q.length ≤ p.length := by
  obtain ⟨gs, re, _, hs, _, hb, rfl⟩ := h.ex
  have h0' : ordered p ≠ [] := fun e => h0 (List.map_eq_nil_iff.mp e)
  have ht := ordered_tgt hg
  have hl := hb.len ht h0'
  rw [ordered_len] at hl
  have htq := num_tgt ht h0' hb
  refine ⟨⟨by rw [numbered_len]; exact Nat.lt_of_le_of_lt hl hg.1, fun r hr => ?_⟩, (num_can hb).ne, by rw [numbered_len]; exact hl⟩
  have hr0 := hr
  obtain ⟨x, hx, rfl⟩ := List.mem_map.mp hr
  have hxr := hb.range ht h0' x hx
  obtain ⟨r', hr', hp⟩ := ordered_mem (rm_mem hxr.1 hxr.2)
  have hgr := hg.2 r' hr'
  refine ⟨by rw [List.length_map, hp.length_eq]; exact hgr.1, fun s hs => ?_, ?_⟩
  · have hsg := htq _ hr0 s hs
    obtain ⟨y, hy, rfl⟩ := List.mem_map.mp hs
    obtain ⟨g1, g2, g3, _⟩ := hgr.2.1 y (hp.mem_iff.mp hy)
    exact ⟨g1, g2, g3, hsg⟩
  · rw [List.map_map]
    exact (hp.map kyOf).nodup_iff.mpr hgr.2.2
def SLeast : List T → (RT → Prop) → Prop := fun ts P => ∃ p : Plan, GoodPlan p ∧ p ≠ [] ∧ ts = [ePlan p] ∧ ∀ q, LeastOf p q → P (.new (.lst (q.map eRoom)))
theorem ok_least {f : Addr} {fd : FuncData} (Fn : Fun K "least_rooms" "least_rooms" s_least_rooms f fd) (TX : TXF mg) (C_alike_groups : Cal P w K mg base CX0 "alike_groups" 2 ["rooms"] (spP ⟨P, w, K⟩ SAlike)) (C_numbered_rooms : Cal P w K mg base CX0 "numbered_rooms" 1 ["rooms", "groups"] (spP ⟨P, w, K⟩ SNumbered)) : FnOk P w K mg base CX0 3 f fd ["rooms"] (spP ⟨P, w, K⟩ SLeast) := by
  refine Fn.ok sc_least_rooms (fun vs H Q E h => ?_) (fun cdv A outer s H vs Q E hr h => ?_)
  · obtain ⟨F, ts, _, hd, P, ⟨_, _, _, rfl, _⟩, _⟩ := h
    rw [hd.length]; rfl
  · obtain ⟨F, ts, fh, hd, PP, ⟨p, hg, hp0, rfl, hk⟩, q⟩ := h
    have hu := hr.units
    have hu66 := units66 hr
    have h0' : ordered p ≠ [] := fun e => hp0 (List.map_eq_nil_iff.mp e)
    have hsz : ∀ r ∈ ordered p, r.length < sizeLine := fun r hr => by
      obtain ⟨r', hr', hp⟩ := ordered_mem hr
      rw [hp.length_eq]; exact (hg.2 r' hr').1
    refine ⟨_, (pss_cons (ps_setLc (i := 1) (own := [("steps", 2)]) (by rfl) sc_least_rooms.nd rfl rfl (sw_true rfl rfl rfl (by decide +kernel)) (pi_listB ⟨P, w, K⟩ rfl (pv 0)) (blkOk_by (N := N_least_rooms) (sc := defScope s_least_rooms) (by decide +kernel)) (fun _ _ _ _ _ => (pg_name (i := 2) sc_least_rooms.nd rfl (Or.inl rfl))) (fun _ _ _ _ _ => pts_nil) (fun _ _ _ _ _ => (pe_callB (call_sortedB ⟨P, w, K⟩ rfl hu66) (by rfl) TX.n_sorted (by decide +kernel) (pa_cons (pv 2) pa_nil))))
    (pss_one (ps_ret (pe_call C_numbered_rooms.ok (hr.mono (by decide)) (by rfl) C_numbered_rooms.mg C_numbered_rooms.kp C_numbered_rooms.bd .nil pass0 (pa_cons (pv 1) (pa_cons (pe_call C_alike_groups.ok (hr.mono (by decide)) (by rfl) C_alike_groups.mg C_alike_groups.kp C_alike_groups.bd .nil pass0 (pa_cons (pv 1) pa_nil)) pa_nil)))))), ?_⟩
    refine run_P (n := 2) fh hd rfl q ?_
    dsimp only [cxOf]
    refine es_seq ?_
    walk_at "e"
    refine ev_lcI (ei_L ?_)
    walk_at "e"
    refine ⟨by rw [List.length_map]; exact Nat.le_of_lt hg.1, fun i acc δ => acc = ((p.take i).map srt).map eRoom ∧ δ = [.d (ePlan p), .no, .no], ⟨by simp, rfl⟩, fun _ _ _ _ => trivial, ?_, ?_⟩
    · rintro i t acc δ hti _ ⟨rfl, rfl⟩
      rw [List.getElem?_map] at hti
      obtain ⟨r, hr', rfl⟩ := Option.map_eq_some_iff.mp hti
      walk_at "d"
      refine ite2 (fun _ => ?_) (fun h => nomatch h)
      walk_at "d"
      refine oa_sorted (e := eS) dS (xs := r) LstV.d eS_py (PySem.W.AllAlike.of fun _ _ => by simp [PySem.W.alike, PySem.W.alikeAll, dS]) (PySem.W.Sortable.tuples fun _ => ⟨_, _, rfl⟩) (fun a => by rw [dS_depth]; decide) fun p1 => ?_
      refine ⟨_, Pu.fr, ?_, rfl⟩
      rw [List.take_add_one, hr']; simp [srt, eRoom]
    · rintro acc δ _ ⟨rfl, rfl⟩ p2
      rw [List.length_map, List.take_length]
      refine gt_name all_in ?_
      refine es_frz (i := 1) rfl rfl ?_
      walk_at "e"
      refine ev_callPn ?_
      walk_at "e"
      refine ev_callPn ?_
      walk_at "e"
      refine ⟨[ePlan (ordered p)], rfl, ordered p, h0', by rw [ordered_len]; exact hg.1, hsz, ordered_tgt hg, rfl, fun gs hgl hs hc => ?_⟩
      refine ⟨_, Pu.d, ea_nil ?_⟩
      refine ⟨[ePlan (ordered p), .lst (gs.map T.int)], rfl, ordered p, gs, h0', by rw [ordered_len]; exact hg.1, hsz, ordered_tgt hg, hgl, rfl, fun re hb p3 => ?_⟩
      exact hk _ ⟨gs, re, by rw [hgl, ordered_len], hs, fun h => hc h (ordered_nodk hg), hb, rfl⟩
abbrev s_Service___init__ : Stmt := inClass (topS 24) 0
abbrev N_Service___init__ : List Str := ["self", "rooms"]
theorem sc_Service___init__ : FnScope N_Service___init__ ["self", "rooms"] (defScope s_Service___init__) := ⟨rfl, rfl, rfl, by decide +kernel, rfl, by decide +kernel, by decide +kernel⟩

def SInit (C : Addr) : OW → List T → (OW → RT → Prop) → Prop := fun us ts P => ∃ (dx : Addr) (p : Plan), us = .ins C dx [] [] ∧ GoodPlan p ∧ p ≠ [] ∧ ts = [ePlan p] ∧ ∀ q, LeastOf p q → P (.ins C dx ["_rooms"] [ePlan q]) (.d .non)
theorem ok_init {f C : Addr} {fd : FuncData} (Fn : Fun K "__init__" "Service.__init__" s_Service___init__ f fd) (TX : TXF mg) (hC : Cls K C) (hR : NoAttr K C "_rooms") (C_check_rooms : Cal P w K mg base CX0 "check_rooms" 3 ["rooms"] (spP ⟨P, w, K⟩ SCheckRooms)) (C_least_rooms : Cal P w K mg base CX0 "least_rooms" 3 ["rooms"] (spP ⟨P, w, K⟩ SLeast)) : FnOk P w K mg base CX0 4 f fd ["self", "rooms"] (spM ⟨P, w, K⟩ (SInit C)) := by
  refine Fn.ok sc_Service___init__ (fun vs H Q E h => ?_) (fun cdv A outer s H vs Q E hr h => ?_)
  · obtain ⟨F, m, ws, us, ts, rfl, _, _, _, hd, P, ⟨_, _, _, _, _, rfl, _⟩, _⟩ := h
    rw [List.length_cons, hd.length]; rfl
  · obtain ⟨F, m, ws, us, ts, rfl, fh, fm, hm, hd, PP, ⟨dx, p, rfl, hg, hp0, rfl, hk⟩, q⟩ := h
    have hu := hr.units
    refine ⟨_, (pss_cons (ps_expr (pe_call C_check_rooms.ok (hr.mono (by decide)) (by rfl) C_check_rooms.mg C_check_rooms.kp C_check_rooms.bd .nil pass0 (pa_cons (pv 1) pa_nil)))
    (pss_one (ps_fld (pv 0) (pe_call C_least_rooms.ok (hr.mono (by decide)) (by rfl) C_least_rooms.mg C_least_rooms.kp C_least_rooms.bd .nil pass0 (pa_cons (pv 1) pa_nil)) (by rfl)))), ?_⟩
    refine run_M (n := 0) fh fm hm hd rfl q ?_
    dsimp only [cxOf]
    refine es_seq ?_
    walk_at "e"
    refine ev_callPn ?_
    walk_at "e"
    refine ⟨[ePlan p], rfl, p, hg, rfl, ?_⟩
    refine es_fld0 (dx := dx) hC hR ?_
    refine ev_callPn ?_
    walk_at "e"
    refine ⟨[ePlan p], rfl, p, hg, hp0, rfl, fun q' hl p1 => ?_⟩
    refine ⟨ePlan q', Pu.fr, ?_⟩
    refine ev_ptr (.inr (.inl (by rfl))) ?_
    refine ⟨m, rfl, 0, rfl, ?_⟩
    exact ⟨_, rfl, hk q' hl⟩
end
end K

namespace K
open PySem L2 DL PyProof.Rows
/-! ### the order of steps and of keys -/
def toks (d : PyData) : List (Int ⊕ List Nat) := PySem.W.keyToks d
def klt (a b : K3) : Prop := PyProof.Rows.lexLt PyProof.Rows.itemOrd (toks (dK a)) (toks (dK b)) = true
theorem toks_K (k : K3) : toks (dK k) = [.inl 1, .inr k.1.cps.toList, .inl 1, .inr k.2.1.cps.toList, .inl 1, .inr k.2.2.cps.toList, .inl 0] := by
  simp [toks, dK, PySem.W.keyToks, PySem.W.keyToksAll]
theorem toks_S (s : Stp) : toks (dS s) = [.inl 1, .inr s.1.cps.toList, .inl 1, .inr s.2.1.cps.toList, .inl 1, .inr s.2.2.1.cps.toList, .inl 1, .inl s.2.2.2, .inl 0] := by
  simp [toks, dS, PySem.W.keyToks, PySem.W.keyToksAll]
theorem toks_inj {a b : K3} (h : toks (dK a) = toks (dK b)) : a = b := by
  rw [toks_K, toks_K] at h
  simp only [List.cons.injEq, Sum.inr.injEq, true_and, and_true] at h
  exact Prod.ext (PySem.W.str_of_cps h.1) (Prod.ext (PySem.W.str_of_cps h.2.1) (PySem.W.str_of_cps h.2.2))
theorem klt_asymm (a b : K3) (h : klt a b) : ¬ klt b a := fun h' => by
  have := PyProof.Rows.lex_trans _ _ _ h h'
  rw [PyProof.Rows.lex_irrefl] at this
  cases this
theorem klt_total {a b : K3} (h : a ≠ b) (h' : ¬ klt b a) : klt a b := Classical.byContradiction fun q => by
  unfold klt at q h'
  exact h (toks_inj (PyProof.Rows.lex_total _ _ (by simpa using q) (by simpa using h')))
theorem cps_ne {a b : Str} (h : a ≠ b) : (Sum.inr a.cps.toList : Int ⊕ List Nat) ≠ .inr b.cps.toList := fun q => h (PySem.W.str_of_cps (Sum.inr.inj q))
theorem step_lt {s t : Stp} (h : kyOf s ≠ kyOf t) : PyProof.Rows.lexLt PyProof.Rows.itemOrd (toks (dS s)) (toks (dS t)) = PyProof.Rows.lexLt PyProof.Rows.itemOrd (toks (dK (kyOf s))) (toks (dK (kyOf t))) := by
  obtain ⟨a1, a2, a3, a4⟩ := s
  obtain ⟨b1, b2, b3, b4⟩ := t
  rw [toks_S, toks_S, toks_K, toks_K]
  simp only [kyOf] at h ⊢
  rw [PyProof.Rows.lex_self, PyProof.Rows.lex_self]
  by_cases h1 : a1 = b1
  · subst h1
    rw [PyProof.Rows.lex_self, PyProof.Rows.lex_self, PyProof.Rows.lex_self, PyProof.Rows.lex_self]
    by_cases h2 : a2 = b2
    · subst h2
      rw [PyProof.Rows.lex_self, PyProof.Rows.lex_self, PyProof.Rows.lex_self, PyProof.Rows.lex_self]
      have h3 : a3 ≠ b3 := fun e => h (by rw [e])
      rw [PyProof.Rows.lex_diff (cps_ne h3), PyProof.Rows.lex_diff (cps_ne h3)]
    · rw [PyProof.Rows.lex_diff (cps_ne h2), PyProof.Rows.lex_diff (cps_ne h2)]
  · rw [PyProof.Rows.lex_diff (cps_ne h1), PyProof.Rows.lex_diff (cps_ne h1)]
theorem le_total {α : Type} (d : α → PyData) : PySem.W.TotalLe (PySem.W.dataLe false d) := PySem.W.sortLe_total _ _ _
theorem sorted_pair {α : Type} (d : α → PyData) (xs : List α) : (xs.mergeSort fun a b => PySem.W.dataLe false d a b).Pairwise fun a b => PySem.W.dataLe false d a b = true :=
  List.pairwise_mergeSort (le_total d).trans (fun a b => by rcases (le_total d).total a b with h | h <;> simp [h]) xs
theorem le_lt {α : Type} {d : α → PyData} {a b : α} (h : PySem.W.dataLe false d a b = true) : PyProof.Rows.lexLt PyProof.Rows.itemOrd (toks (d b)) (toks (d a)) = false := by
  unfold PySem.W.dataLe PySem.W.sortLe at h
  simpa [toks] using h
/-- keys in their order, each once -/
theorem srt_keys {r : Room} (h : (r.map kyOf).Nodup) : ((srt r).map kyOf).Pairwise klt := by
  have hn : ((srt r).map kyOf).Nodup := ((srt_perm r).map kyOf).nodup_iff.mpr h
  have hp := sorted_pair dS r
  rw [List.pairwise_map]
  have hn := List.pairwise_map.mp hn
  exact (hp.and hn).imp fun ⟨h1, h2⟩ => klt_total h2 fun q => by
    unfold klt at q
    rw [← step_lt (Ne.symm h2)] at q
    have := le_lt h1
    rw [q] at this; cases this
def keysOf (r : Room) : List K3 := (r.map kyOf).mergeSort fun a b => PySem.W.dataLe false dK a b
theorem keysOf_perm (r : Room) : (keysOf r).Perm (r.map kyOf) := List.mergeSort_perm _ _
theorem ordered_sorted {p : Plan} (h : GoodPlan p) : SortK klt (ordered p) := fun r hr => by
  obtain ⟨r', hr', rfl⟩ := List.mem_map.mp hr
  exact srt_keys (h.2 r' hr').2.2
/-! ### the least rooms -/
structure IsLeast (p q : Plan) : Prop where
  good : GoodPlan q
  can : Can q
  red : Red q
  srt : SortK klt q
  same : Same q 0 p 0
theorem GoodPlan.nodk {p : Plan} (h : GoodPlan p) : NodK p := fun r hr => (h.2 r hr).2.2
theorem IsLeast.self {p q : Plan} (h : IsLeast p q) : IsLeast q q := ⟨h.good, h.can, h.red, h.srt, fun _ => rfl⟩
/-- rooms that come about and are told in their order are least, whoever found the groups -/
theorem least_of {p : Plan} (hg : GoodPlan p) (h0 : p ≠ []) {gs re : List Int} (hs : Stable (ordered p) gs) (hc : Coarse (ordered p) gs) (hb : BI (ordered p) gs re re.length) : IsLeast p (numbered (ordered p) gs re) := by
  have h0' : ordered p ≠ [] := fun e => h0 (List.map_eq_nil_iff.mp e)
  have ht := ordered_tgt hg
  have hl := hb.len ht h0'
  rw [ordered_len] at hl
  have htq := num_tgt ht h0' hb
  refine ⟨⟨by rw [numbered_len]; exact Nat.lt_of_le_of_lt hl hg.1, fun r hr => ?_⟩, num_can hb, num_red ht h0' hs hc hb, fun r hr => ?_, fun ks => ?_⟩
  · have hr0 := hr
    obtain ⟨x, hx, rfl⟩ := List.mem_map.mp hr
    have hxr := hb.range ht h0' x hx
    obtain ⟨r', hr', hp⟩ := ordered_mem (rm_mem hxr.1 hxr.2)
    have hgr := hg.2 r' hr'
    refine ⟨by rw [List.length_map, hp.length_eq]; exact hgr.1, fun s hs => ?_, ?_⟩
    · have hsg := htq _ hr0 s hs
      obtain ⟨y, hy, rfl⟩ := List.mem_map.mp hs
      obtain ⟨g1, g2, g3, _⟩ := hgr.2.1 y (hp.mem_iff.mp hy)
      exact ⟨g1, g2, g3, hsg⟩
    · rw [List.map_map]
      exact (hp.map kyOf).nodup_iff.mpr hgr.2.2
  · obtain ⟨r', hr', e⟩ := num_keys ht h0' hb hr
    rw [e]; exact ordered_sorted hg r' hr'
  · rw [num_rows ht h0' hs hb]
    exact row_perm (fun r _ => srt_perm r) (fun r hr => (hg.2 r hr).2.2) ks 0
theorem LeastOf.isLeast {p q : Plan} (h : LeastOf p q) (hg : GoodPlan p) (h0 : p ≠ []) : IsLeast p q := by
  obtain ⟨gs, re, _, hs, hc, hb, rfl⟩ := h.ex
  exact least_of hg h0 hs (hc (keySame_of klt_asymm (ordered_nodk hg) (ordered_sorted hg))) hb
/-! ### groups by a given relation -/
end K

/-! The first row, by length and then by order, to what is sought: a search pair by pair. -/
namespace BF
section
variable {α κ : Type} (lt : κ → κ → Prop) (W : α → List (κ × α))
inductive Run (s : α) : List κ → α → Prop
  | nil : Run s [] s
  | snoc {r : List κ} {p q : α} {k : κ} (h : Run s r p) (m : (k, q) ∈ W p) : Run s (r ++ [k]) q
def lx : List κ → List κ → Prop
  | k :: a, k' :: b => lx a b ∨ (a = b ∧ lt k k')
  | _, _ => False
def sl (a b : List κ) : Prop := a.length < b.length ∨ (a.length = b.length ∧ lx lt a.reverse b.reverse)
end
section
variable {α κ : Type} {lt : κ → κ → Prop} {W : α → List (κ × α)}
structure Ord (lt : κ → κ → Prop) : Prop where
  irr : ∀ k, ¬ lt k k
  tr : ∀ a b c, lt a b → lt b c → lt a c
  tot : ∀ a b, lt a b ∨ a = b ∨ lt b a
theorem lx_irr (o : Ord lt) : ∀ a, ¬ lx lt a a
  | [], h => h
  | k :: a, h => by
    rcases h with h | ⟨_, h⟩
    · exact lx_irr o a h
    · exact o.irr k h
theorem lx_tr (o : Ord lt) : ∀ {a b c}, lx lt a b → lx lt b c → lx lt a c
  | [], _, _, h, _ => h.elim
  | _ :: _, [], _, h, _ => h.elim
  | _ :: _, _ :: _, [], _, h => h.elim
  | x :: a, y :: b, z :: c, h, h' => by
    rcases h with h | ⟨e, h⟩
    · rcases h' with h' | ⟨e', h'⟩
      · exact .inl (lx_tr o h h')
      · subst e'; exact .inl h
    · subst e
      rcases h' with h' | ⟨e', h'⟩
      · exact .inl h'
      · exact .inr ⟨e', o.tr _ _ _ h h'⟩
theorem lx_tot (o : Ord lt) : ∀ {a b : List κ}, a.length = b.length → lx lt a b ∨ a = b ∨ lx lt b a
  | [], [], _ => .inr (.inl rfl)
  | [], _ :: _, h => by simp at h
  | _ :: _, [], h => by simp at h
  | x :: a, y :: b, h => by
    rcases lx_tot o (a := a) (b := b) (by simpa using h) with q | q | q
    · exact .inl (.inl q)
    · subst q
      rcases o.tot x y with z | z | z
      · exact .inl (.inr ⟨rfl, z⟩)
      · subst z; exact .inr (.inl rfl)
      · exact .inr (.inr (.inr ⟨rfl, z⟩))
    · exact .inr (.inr (.inl q))
theorem sl_irr (o : Ord lt) (a : List κ) : ¬ sl lt a a := fun h => by
  rcases h with h | ⟨_, h⟩
  · omega
  · exact lx_irr o _ h
theorem sl_tr (o : Ord lt) {a b c : List κ} (h : sl lt a b) (h' : sl lt b c) : sl lt a c := by
  rcases h with h | ⟨e, h⟩
  · rcases h' with h' | ⟨e', h'⟩
    · exact .inl (by omega)
    · exact .inl (by omega)
  · rcases h' with h' | ⟨e', h'⟩
    · exact .inl (by omega)
    · exact .inr ⟨e.trans e', lx_tr o h h'⟩
theorem sl_tot (o : Ord lt) (a b : List κ) : sl lt a b ∨ a = b ∨ sl lt b a := by
  rcases Nat.lt_trichotomy a.length b.length with h | h | h
  · exact .inl (.inl h)
  · rcases lx_tot o (a := a.reverse) (b := b.reverse) (by simpa using h) with q | q | q
    · exact .inl (.inr ⟨h, q⟩)
    · exact .inr (.inl (List.reverse_inj.mp q))
    · exact .inr (.inr (.inr ⟨h.symm, q⟩))
  · exact .inr (.inr (.inl h))
theorem sl_snoc {a b : List κ} {k k' : κ} : sl lt (a ++ [k]) (b ++ [k']) ↔ sl lt a b ∨ (a = b ∧ lt k k') := by
  unfold sl
  rw [List.reverse_append, List.reverse_append, List.length_append, List.length_append]
  show _ ∨ (_ ∧ (lx lt a.reverse b.reverse ∨ (a.reverse = b.reverse ∧ lt k k'))) ↔ _
  constructor
  · rintro (h | ⟨h, h' | ⟨e, h'⟩⟩)
    · exact .inl (.inl (by simpa using h))
    · exact .inl (.inr ⟨by simpa using h, h'⟩)
    · exact .inr ⟨List.reverse_inj.mp e, h'⟩
  · rintro ((h | ⟨h, h'⟩) | ⟨rfl, h⟩)
    · exact .inl (by simpa using h)
    · exact .inr ⟨by simpa using h, .inl h'⟩
    · exact .inr ⟨rfl, .inr ⟨rfl, h⟩⟩
theorem sl_nil (a : List κ) : ¬ sl lt a [] := fun h => by
  rcases h with h | ⟨_, h⟩
  · simp at h
  · cases e : a.reverse with
    | nil => rw [e] at h; exact h
    | cons x xs => rw [e] at h; exact h
theorem sl_len {a b : List κ} (h : sl lt a b) : a.length ≤ b.length := by
  rcases h with h | ⟨h, _⟩
  · omega
  · omega
theorem snoc_or : ∀ l : List κ, l = [] ∨ ∃ a k, l = a ++ [k]
  | [] => .inl rfl
  | x :: l => by
    rcases snoc_or l with rfl | ⟨a, k, rfl⟩
    · exact .inr ⟨[], x, rfl⟩
    · exact .inr ⟨x :: a, k, rfl⟩
theorem Run.inv {s q : α} {r : List κ} {k : κ} (h : Run W s (r ++ [k]) q) : ∃ p, Run W s r p ∧ (k, q) ∈ W p := by
  generalize e : r ++ [k] = x at h
  cases h with
  | nil => simp at e
  | snoc h m =>
    obtain ⟨rfl, e2⟩ := List.append_inj' e rfl
    cases e2
    exact ⟨_, h, m⟩

/-- how far a search is: the pairs at hand and the rows that lead there; dn, what was seen of the ways of the pair at -/
structure BI (lt : κ → κ → Prop) (W : α → List (κ × α)) (bad : α → Prop) (s0 : α) (ps : List α) (rs : List (List κ)) (at_ : Nat) (dn : List (κ × α)) : Prop where
  len : rs.length = ps.length
  p0 : ps[0]? = some s0
  r0 : rs[0]? = some []
  nd : ps.Nodup
  run : ∀ (i : Nat) (p : α) (r : List κ), ps[i]? = some p → rs[i]? = some r → Run W s0 r p
  least : ∀ (i : Nat) (p : α) (r r' : List κ), ps[i]? = some p → rs[i]? = some r → Run W s0 r' p → ¬ sl lt r' r
  inc : ∀ (i j : Nat) (r r' : List κ), i < j → rs[i]? = some r → rs[j]? = some r' → sl lt r r'
  mad : ∀ (i : Nat) (r : List κ), rs[i]? = some r → r = [] ∨ ∃ (j : Nat) (rj : List κ) (k : κ), j ≤ at_ ∧ rs[j]? = some rj ∧ r = rj ++ [k] ∧ (j = at_ → ∃ q, (k, q) ∈ dn)
  exp : ∀ (j : Nat) (p : α) (kq : κ × α), j < at_ → ps[j]? = some p → kq ∈ W p → kq.2 ∈ ps
  cur : ∀ kq ∈ dn, kq.2 ∈ ps
  good : ∀ (j : Nat) (p : α), j < at_ → ps[j]? = some p → ¬ bad p
variable {bad : α → Prop} {s0 : α} {ps : List α} {rs : List (List κ)} {at_ : Nat} {dn : List (κ × α)}
theorem BI.start (o : Ord lt) : BI lt W bad s0 [s0] [[]] 0 [] where
  len := rfl
  p0 := rfl
  r0 := rfl
  nd := by simp
  run := fun i p r h1 h2 => by
    match i, h1, h2 with
    | 0, h1, h2 => cases h1; cases h2; exact .nil
    | i + 1, h1, _ => simp at h1
  least := fun i p r r' h1 h2 _ => by
    match i, h1, h2 with
    | 0, h1, h2 => cases h2; exact sl_nil _
    | i + 1, h1, _ => simp at h1
  inc := fun i j r r' h h1 h2 => by
    match j, h2 with
    | 0, _ => omega
    | j + 1, h2 => simp at h2
  mad := fun i r h => by
    match i, h with
    | 0, h => cases h; exact .inl rfl
    | i + 1, h => simp at h
  exp := fun j _ _ h => by omega
  cur := fun _ h => by simp at h
  good := fun j _ h => by omega
/-- a run to a pair that is not behind: it leaves what is behind at some pair at hand -/
theorem BI.leaves (B : BI lt W bad s0 ps rs at_ dn) {r : List κ} {p : α} (h : Run W s0 r p) : (∃ j, j < at_ ∧ ps[j]? = some p) ∨ ∃ (r1 r2 : List κ) (i : Nat) (q : α) (ri : List κ), r = r1 ++ r2 ∧ at_ ≤ i ∧ ps[i]? = some q ∧ rs[i]? = some ri ∧ Run W s0 r1 q ∧ (r2 = [] → p = q) := by
  have rsAt : ∀ {i : Nat} {q : α}, ps[i]? = some q → ∃ ri, rs[i]? = some ri := fun {i q} e => by
    have := (List.getElem?_eq_some_iff.mp e).1
    rw [← B.len] at this
    exact ⟨_, List.getElem?_eq_getElem this⟩
  induction h with
  | nil =>
    by_cases z : 0 < at_
    · exact .inl ⟨0, z, B.p0⟩
    · exact .inr ⟨[], [], 0, s0, [], rfl, by omega, B.p0, B.r0, .nil, fun _ => rfl⟩
  | @snoc r p q k h m ih =>
    rcases ih with ⟨j, hj, e⟩ | ⟨r1, r2, i, q', ri, e, hi, e1, e2, h1, _⟩
    · obtain ⟨i, e2⟩ := List.mem_iff_getElem?.mp (B.exp j p (k, q) hj e m)
      by_cases z : i < at_
      · exact .inl ⟨i, z, e2⟩
      · obtain ⟨ri, e3⟩ := rsAt e2
        exact .inr ⟨r ++ [k], [], i, q, ri, by simp, by omega, e2, e3, h.snoc m, fun _ => rfl⟩
    · exact .inr ⟨r1, r2 ++ [k], i, q', ri, by rw [e, List.append_assoc], hi, e1, e2, h1, fun z => by simp at z⟩
theorem BI.le_at (o : Ord lt) (B : BI lt W bad s0 ps rs at_ dn) {i : Nat} {ra ri : List κ} (hi : at_ ≤ i) (ha : rs[at_]? = some ra) (e : rs[i]? = some ri) : ri = ra ∧ i = at_ ∨ sl lt ra ri ∧ at_ < i := by
  by_cases z : at_ = i
  · subst z; rw [ha] at e; cases e; exact .inl ⟨rfl, rfl⟩
  · exact .inr ⟨B.inc _ _ _ _ (by omega) ha e, by omega⟩
/-- the pair at is what is sought -/
theorem BI.found (o : Ord lt) (B : BI lt W bad s0 ps rs at_ dn) {p : α} {ra : List κ} (hp : ps[at_]? = some p) (ha : rs[at_]? = some ra) : Run W s0 ra p ∧ ∀ (r : List κ) (q : α), Run W s0 r q → bad q → ¬ sl lt r ra := by
  refine ⟨B.run _ _ _ hp ha, fun r q h hb hs => ?_⟩
  rcases B.leaves h with ⟨j, hj, e⟩ | ⟨r1, r2, i, q', ri, e, hi, e1, e2, h1, _⟩
  · exact B.good j q hj e hb
  · have l1 := B.least i q' ri r1 e1 e2 h1
    have s1 : sl lt r1 ra := by
      rcases snoc_or r2 with rfl | ⟨r2, k, rfl⟩
      · rw [List.append_nil] at e; rw [← e]; exact hs
      · exact sl_tr o (.inl (by rw [e]; simp)) hs
    rcases B.le_at o hi ha e2 with ⟨e3, _⟩ | ⟨e3, _⟩
    · rw [e3] at l1; exact l1 s1
    · exact l1 (sl_tr o s1 e3)
/-- nothing is left -/
theorem BI.none (B : BI lt W bad s0 ps rs at_ dn) (h : ps.length ≤ at_) : ∀ (r : List κ) (q : α), Run W s0 r q → ¬ bad q := fun r q hr hb => by
  rcases B.leaves hr with ⟨j, hj, e⟩ | ⟨r1, r2, i, q', ri, e, hi, e1, _⟩
  · exact B.good j q hj e hb
  · have := (List.getElem?_eq_some_iff.mp e1).1
    omega
/-- one way more, to a pair that was seen -/
theorem BI.old (B : BI lt W bad s0 ps rs at_ dn) {k : κ} {q : α} (h : q ∈ ps) : BI lt W bad s0 ps rs at_ (dn ++ [(k, q)]) :=
  { B with
    mad := fun i r e => by
      rcases B.mad i r e with h | ⟨j, rj, k, h1, h2, h3, h4⟩
      · exact .inl h
      · exact .inr ⟨j, rj, k, h1, h2, h3, fun z => by obtain ⟨q, hq⟩ := h4 z; exact ⟨q, List.mem_append_left _ hq⟩⟩
    cur := fun kq hk => by
      rcases List.mem_append.mp hk with z | z
      · exact B.cur kq z
      · obtain rfl := List.mem_singleton.mp z; exact h }
/-- .. to a pair that was not -/
theorem BI.new (o : Ord lt) (B : BI lt W bad s0 ps rs at_ dn) {p : α} {ra : List κ} {k : κ} {q : α} {rest : List (κ × α)} (hp : ps[at_]? = some p) (ha : rs[at_]? = some ra) (hw : W p = dn ++ (k, q) :: rest) (so : (W p).Pairwise fun a b => lt a.1 b.1) (h : q ∉ ps) : BI lt W bad s0 (ps ++ [q]) (rs ++ [ra ++ [k]]) at_ (dn ++ [(k, q)]) := by
  have lp := (List.getElem?_eq_some_iff.mp hp).1
  have mem : (k, q) ∈ W p := by rw [hw]; simp
  have pk : ∀ kq ∈ dn, lt kq.1 k := fun kq hk => by
    rw [hw] at so
    exact (List.pairwise_append.mp so).2.2 kq hk (k, q) List.mem_cons_self
  have big : ∀ (i : Nat) (r : List κ), rs[i]? = some r → sl lt r (ra ++ [k]) := fun i r e => by
    rcases B.mad i r e with rfl | ⟨j, rj, k', h1, h2, rfl, h4⟩
    · exact .inl (by simp)
    · refine sl_snoc.mpr ?_
      by_cases z : j = at_
      · obtain ⟨q', hq⟩ := h4 z
        subst z
        rw [ha] at h2; cases h2
        exact .inr ⟨rfl, pk _ hq⟩
      · exact .inl (B.inc j at_ rj ra (by omega) h2 ha)
  have getp : ∀ {i : Nat} {x : α}, (ps ++ [q])[i]? = some x → ps[i]? = some x ∨ (i = ps.length ∧ x = q) := fun {i x} e => by
    by_cases z : i < ps.length
    · rw [List.getElem?_append_left z] at e; exact .inl e
    · rw [List.getElem?_append_right (by omega)] at e
      have : i - ps.length = 0 := by have := (List.getElem?_eq_some_iff.mp e).1; simp at this; omega
      rw [this] at e
      exact .inr ⟨by omega, by simpa using e.symm⟩
  have getr : ∀ {i : Nat} {x : List κ}, (rs ++ [ra ++ [k]])[i]? = some x → rs[i]? = some x ∨ (i = ps.length ∧ x = ra ++ [k]) := fun {i x} e => by
    by_cases z : i < rs.length
    · rw [List.getElem?_append_left z] at e; exact .inl e
    · rw [List.getElem?_append_right (by omega)] at e
      have : i - rs.length = 0 := by have := (List.getElem?_eq_some_iff.mp e).1; simp at this; omega
      rw [this] at e
      exact .inr ⟨by rw [← B.len]; omega, by simpa using e.symm⟩
  have keepr : ∀ {i : Nat} {x : List κ}, rs[i]? = some x → (rs ++ [ra ++ [k]])[i]? = some x := fun {i x} e => by
    rw [List.getElem?_append_left (List.getElem?_eq_some_iff.mp e).1]; exact e
  have lti : ∀ {i : Nat} {x : α}, ps[i]? = some x → i < ps.length := fun e => (List.getElem?_eq_some_iff.mp e).1
  have ltr : ∀ {i : Nat} {x : List κ}, rs[i]? = some x → i < ps.length := fun e => by rw [← B.len]; exact (List.getElem?_eq_some_iff.mp e).1
  have lrs : at_ < rs.length := by rw [B.len]; exact lp
  refine { len := by simp [B.len], p0 := ?_, r0 := keepr B.r0, nd := ?_, run := ?_, least := ?_, inc := ?_, mad := ?_, exp := ?_, cur := ?_, good := ?_ }
  · rw [List.getElem?_append_left (by omega)]; exact B.p0
  · rw [List.nodup_append]
    exact ⟨B.nd, by simp, fun a ha b hb => by
      obtain rfl := List.mem_singleton.mp hb
      intro e; exact h (by rw [← e]; exact ha)⟩
  · intro i x r e1 e2
    rcases getp e1 with e1 | ⟨z, rfl⟩
    · rcases getr e2 with e2 | ⟨z, _⟩
      · exact B.run i x r e1 e2
      · have := lti e1; omega
    · rcases getr e2 with e2 | ⟨_, rfl⟩
      · have := ltr e2; omega
      · exact (B.run _ _ _ hp ha).snoc mem
  · intro i x r r' e1 e2 hr hs
    rcases getp e1 with e1 | ⟨z, rfl⟩
    · rcases getr e2 with e2 | ⟨z, _⟩
      · exact B.least i x r r' e1 e2 hr hs
      · have := lti e1; omega
    · rcases getr e2 with e2 | ⟨_, rfl⟩
      · have := ltr e2; omega
      · rcases B.leaves hr with ⟨j, hj, e⟩ | ⟨r1, r2, i', q', ri, e, hi, f1, f2, h1, h2⟩
        · exact h (List.mem_of_getElem? e)
        · have l1 := B.least i' q' ri r1 f1 f2 h1
          rcases snoc_or r2 with rfl | ⟨r2, k', rfl⟩
          · rw [h2 rfl] at h; exact h (List.mem_of_getElem? f1)
          ·
            rw [← List.append_assoc] at e
            have hs2 := hs
            rw [e] at hs2
            have le : ri.length ≤ r1.length := by
              rcases sl_tot o ri r1 with z | z | z
              · exact sl_len z
              · rw [z]; exact Nat.le_refl _
              · exact absurd z l1
            have la : ra.length ≤ ri.length := by
              rcases B.le_at o hi ha f2 with ⟨z, _⟩ | ⟨z, _⟩
              · rw [z]; exact Nat.le_refl _
              · exact sl_len z
            have l2 : r2 = [] := by
              have := sl_len hs2
              simp at this
              have : r2.length = 0 := by omega
              exact List.length_eq_zero_iff.mp this
            subst l2
            rw [List.append_nil] at hs2 e
            have no : ¬ sl lt r1 ra := fun z => by
              rcases B.le_at o hi ha f2 with ⟨y, _⟩ | ⟨y, _⟩
              · rw [y] at l1; exact l1 z
              · exact l1 (sl_tr o z y)
            rcases sl_snoc.mp hs2 with z | ⟨z, z2⟩
            · exact no z
            · subst z
              -- the same row, an earlier way
              have hq' : q' = p := by
                rcases B.le_at o hi ha f2 with ⟨_, y⟩ | ⟨y, _⟩
                · subst y; rw [hp] at f1; exact (Option.some.inj f1).symm
                · exact absurd y l1
              subst hq'
              rw [e] at hr
              obtain ⟨p2, h3, m3⟩ := hr.inv
              obtain ⟨j2, hj2⟩ : ∃ j2, ps[j2]? = some p2 ∧ (p2 = q' ∨ True) := by
                rcases B.leaves h3 with ⟨j, hj, e⟩ | ⟨a, b, i2, q2, ri2, e3, hi3, e4, e5, h6, h7⟩
                · exact ⟨j, e, .inr trivial⟩
                · rcases snoc_or b with rfl | ⟨b, x, rfl⟩
                  · rw [h7 rfl]; exact ⟨i2, e4, .inr trivial⟩
                  · exfalso
                    have l3 := B.least i2 q2 ri2 a e4 e5 h6
                    have sa : sl lt a r1 := .inl (by rw [e3]; simp)
                    rcases B.le_at o hi3 ha e5 with ⟨y, _⟩ | ⟨y, _⟩
                    · rw [y] at l3; exact l3 sa
                    · exact l3 (sl_tr o sa y)
              by_cases y : j2 < at_
              · exact h (B.exp j2 p2 (k', x) y hj2.1 m3)
              · obtain ⟨r2', er2⟩ : ∃ r2', rs[j2]? = some r2' := by
                  have := lti hj2.1
                  rw [← B.len] at this
                  exact ⟨_, List.getElem?_eq_getElem this⟩
                have l4 := B.least j2 p2 r2' r1 hj2.1 er2 h3
                rcases B.le_at o (by omega) ha er2 with ⟨_, y2⟩ | ⟨y2, _⟩
                · subst y2
                  have e9 : p2 = q' := by
                    have := hj2.1; rw [hp] at this; exact (Option.some.inj this).symm
                  subst e9
                  rw [hw] at m3
                  rcases List.mem_append.mp m3 with m | m
                  · exact h (B.cur _ m)
                  · rcases List.mem_cons.mp m with m | m
                    · cases m; exact o.irr _ z2
                    · rw [hw] at so
                      have := (List.pairwise_cons.mp (List.pairwise_append.mp so).2.1).1 _ m
                      exact o.irr _ (o.tr _ _ _ z2 this)
                · exact absurd y2 l4
  · intro i j r r' hij e1 e2
    rcases getr e2 with e2 | ⟨z, rfl⟩
    · rcases getr e1 with e1 | ⟨z, _⟩
      · exact B.inc i j r r' hij e1 e2
      · have := ltr e2; omega
    · rcases getr e1 with e1 | ⟨z, _⟩
      · exact big i r e1
      · omega
  · intro i r e
    rcases getr e with e | ⟨z, rfl⟩
    · rcases B.mad i r e with h | ⟨j, rj, k', h1, h2, h3, h4⟩
      · exact .inl h
      · exact .inr ⟨j, rj, k', h1, keepr h2, h3, fun z => by obtain ⟨q', hq⟩ := h4 z; exact ⟨q', List.mem_append_left _ hq⟩⟩
    · exact .inr ⟨at_, ra, k, Nat.le_refl _, keepr ha, rfl, fun _ => ⟨q, by simp⟩⟩
  · intro j x kq hj e m
    rcases getp e with e | ⟨z, _⟩
    · exact List.mem_append_left _ (B.exp j x kq hj e m)
    · omega
  · intro kq hk
    rcases List.mem_append.mp hk with z | z
    · exact List.mem_append_left _ (B.cur kq z)
    · obtain rfl := List.mem_singleton.mp z; simp
  · intro j x hj e
    rcases getp e with e | ⟨z, _⟩
    · exact B.good j x hj e
    · omega
/-- all ways of a pair were seen, and it is not sought -/
theorem BI.next (B : BI lt W bad s0 ps rs at_ dn) {p : α} (hp : ps[at_]? = some p) (hw : W p = dn) (hb : ¬ bad p) : BI lt W bad s0 ps rs (at_ + 1) [] :=
  { B with
    mad := fun i r e => by
      rcases B.mad i r e with h | ⟨j, rj, k, h1, h2, h3, _⟩
      · exact .inl h
      · exact .inr ⟨j, rj, k, by omega, h2, h3, fun z => by omega⟩
    exp := fun j x kq hj e m => by
      by_cases z : j < at_
      · exact B.exp j x kq z e m
      · have : j = at_ := by omega
        subst this
        rw [hp] at e; cases e
        rw [hw] at m
        exact B.cur kq m
    cur := fun _ h => by simp at h
    good := fun j x hj e => by
      by_cases z : j < at_
      · exact B.good j x z e
      · have : j = at_ := by omega
        subst this
        rw [hp] at e; cases e
        exact hb }
/-- what a search tells: a first row to what is sought, or that there is none -/
def First (lt : κ → κ → Prop) (W : α → List (κ × α)) (bad : α → Prop) (s0 : α) : Option (List κ) → Prop
  | some r => (∃ p, Run W s0 r p ∧ bad p) ∧ ∀ (r' : List κ) (q : α), Run W s0 r' q → bad q → ¬ sl lt r' r
  | Option.none => ∀ (r : List κ) (q : α), Run W s0 r q → ¬ bad q
theorem First.uniq (o : Ord lt) : ∀ {a b : Option (List κ)}, First lt W bad s0 a → First lt W bad s0 b → a = b
  | Option.none, Option.none, _, _ => rfl
  | Option.none, some _, h, ⟨⟨p, h1, h2⟩, _⟩ => absurd h2 (h _ _ h1)
  | some _, Option.none, ⟨⟨p, h1, h2⟩, _⟩, h => absurd h2 (h _ _ h1)
  | some a, some b, ⟨⟨p, h1, h2⟩, h3⟩, ⟨⟨q, h4, h5⟩, h6⟩ => by
    rcases sl_tot o a b with z | z | z
    · exact absurd z (h6 _ _ h1 h2)
    · rw [z]
    · exact absurd z (h3 _ _ h4 h5)
end
end BF

namespace K
open PySem L2 DL
local macro_rules | `(tactic| walk_at "dl") => `(tactic| with_reducible first
  | refine es_if ?_ | refine es_append ?_ | refine es_sub ?_ | refine es_par3 ?_ | refine es_parD ?_ | refine es_asg ?_ | refine es_ret ?_ | refine es_retN ?_ | refine es_next ?_ | refine es_drop ?_ | refine es_break ?_ | refine es_cont ?_
  | refine et_val ?_ | refine et_B ?_ | refine et_not ?_ | refine et_and ?_ | refine et_or ?_ | refine et_yes ?_
  | refine ev_op ?_ | refine ev_un ?_ | refine ev_cb ?_ | refine ev_tup ?_ | refine ev_lst ?_ | refine ev_ifx ?_ | refine ev_andV ?_ | refine ev_orV ?_ | refine ev_notV ?_ | refine ev_sl ?_
  | refine ea_cons ?_ | refine ea_nil ?_ | refine ev_int ?_ | refine ev_str ?_ | refine ev_bl ?_ | refine ev_non ?_ | refine eo_none ?_ | refine eo_some ?_
  | refine gts_cons ?_ | refine gts_nil ?_
  | refine o2_addI ?_ | refine o2_ltI ?_ | refine o2_leI ?_ | refine o2_gtI ?_ | refine o2_geI ?_ | refine o2_ltS ?_ | refine o2_leS ?_ | refine o2_gtS ?_ | refine o2_sub ?_
  | refine oa_intI ?_ | refine oa_intB ?_ | refine oa_abs ?_ | refine oa_two ?_ | refine ulen_R ?_ | refine ulen_T ?_ | refine ulen_L LstV.d ?_
  | (refine ⟨_, Pu.d, ?_⟩) | (refine ⟨_, Pu.ptr, ?_⟩) | (refine ⟨_, Pu.fr, ?_⟩))
local macro_rules | `(tactic| walk_at "dv") => `(tactic| first
  | refine ev_var (by rfl) ?_ | refine ev_ptr (.inl (by rfl)) ?_ | refine ev_ptr (.inr (.inl (by rfl))) ?_ | refine ev_ptr (.inr (.inr (by rfl))) ?_
  | refine uix_L (LstV.o ⟨0, .inr (by rfl)⟩) (by rfl) ?_ | refine uix_L LstV.d (by rfl) ?_ | refine uix_T (by rfl) ?_
  | refine gt_tup (by rfl) ?_ | refine gt_name (by first | exact all_in | simp) ?_ | refine ⟨_, rfl, ?_⟩)
local macro_rules | `(tactic| walk_at "e") => `(tactic| repeat (first | walk_at "dl" | walk_at "dv"))
local macro_rules | `(tactic| walk_at "d") => `(tactic| repeat (first | with_reducible refine es_seq ?_ | walk_at "dl" | walk_at "dv"))
section
variable {P : Program} {w : World} {K : PySem.W.Frag} {mg : Str → Option Value} {base : Heap}
theorem klt_ord : BF.Ord klt where
  irr := fun k h => klt_asymm k k h h
  tr := fun a b c h h' => PyProof.Rows.lex_trans _ _ _ h h'
  tot := fun a b => by
    by_cases e : a = b
    · exact .inr (.inl e)
    · by_cases h : klt b a
      · exact .inr (.inr h)
      · exact .inl (klt_total e h)
theorem sub_len {α : Type} [DecidableEq α] : ∀ {xs ys : List α}, xs.Nodup → (∀ x ∈ xs, x ∈ ys) → xs.length ≤ ys.length
  | [], _, _, _ => Nat.zero_le _
  | x :: xs, ys, nd, h => by
    rw [List.nodup_cons] at nd
    have hx := h x List.mem_cons_self
    have ih := sub_len (xs := xs) (ys := ys.erase x) nd.2 fun y hy => (List.mem_erase_of_ne fun e => nd.1 (by rw [← e]; exact hy)).mpr (h y (List.mem_cons_of_mem _ hy))
    rw [List.length_erase_of_mem hx] at ih
    have := List.length_pos_of_mem hx
    rw [List.length_cons]; omega
def eRest : Option (List K3) → T
  | none => .non
  | some r => .lst (r.map eK)
def eRow (r : List K3) : T := .lst (r.map eK)
theorem seen_some (ps : List (Int × Int)) (q : Int × Int) : (getM (ps.map fun p => (p, true)) q).isSome = decide (q ∈ ps) := by
  induction ps with
  | nil => rfl
  | cons p ps ih =>
    rw [List.map_cons, getM]
    by_cases e : p = q
    · subst e; simp
    · rw [if_neg e, ih]
      simp [Ne.symm e]
abbrev s_first_row : Stmt := topS 20
abbrev N_first_row : List Str := ["look", "pairs", "rows", "seen", "at", "rest", "ways", "step", "pair"]
theorem sc_first_row : FnScope N_first_row ["look"] (defScope s_first_row) := ⟨rfl, rfl, rfl, by decide +kernel, rfl, by decide +kernel, by decide +kernel⟩

abbrev Duo := Int × Int
structure LookAt (N : List Duo) (rest : Duo → Option (List K3)) (W : Duo → List (K3 × Duo)) (S : List T → (RT → Prop) → Prop) (p : Duo) : Prop where
  r : ∀ r, rest p = some r → r.length ≤ 1000
  z : (W p).length < sizeLine
  so : (W p).Pairwise fun a b => klt a.1 b.1
  cl : ∀ kq ∈ W p, kq.2 ∈ N
  s : ∀ P : RT → Prop, P (.d (.tup [eRest (rest p), .lst ((W p).map eW)])) → S [duoE.ek p] P
def SFirstRow : NdefX.NF → (List T → (RT → Prop) → Prop) → List T → (RT → Prop) → Prop := fun q S ts P => ∃ (N : List Duo) (rest : Duo → Option (List K3)) (W : Duo → List (K3 × Duo)), ts = [.fn q] ∧ ((0, 0) : Duo) ∈ N ∧ N.length < 100000 ∧ (∀ p ∈ N, LookAt N rest W S p) ∧
  (∀ (r : List K3) (p : Duo) (rs : List K3), BF.Run W (0, 0) r p → rest p = some rs → (∀ r' q', BF.Run W (0, 0) r' q' → (rest q').isSome = true → ¬ BF.sl klt r' r) → P (.new (.lst ((r ++ rs).map eK)))) ∧ ((∀ r q', BF.Run W (0, 0) r q' → ¬ (rest q').isSome = true) → P (.d .non))
theorem ok_first_row {f : Addr} {fd : FuncData} (Fn : Fun K "first_row" "first_row" s_first_row f fd) (TX : TXF mg) : FnF P w K mg base 5 f fd ["look"] (spF P w K mg base 4 SFirstRow) := by
  refine FnF.make Fn sc_first_row (fun outer s vs H Q E h => ?_) (fun cdv A outer s H vs Q E hr h => ?_)
  · obtain ⟨F, ts, q, qs, fr, vw, tw, S, _, hd, _, _, _, _, ⟨_, _, _, rfl, _⟩, _⟩ := h
    rw [hd.length]; rfl
  · obtain ⟨F, ts, nf, qs, fr, vw, tw, S, fh, hd, known, hw, nok, PP, ⟨N, rest, W, rfl, h0, hN, hlk, hk1, hk2⟩, q⟩ := h
    have hu := hr.units
    have hu66 := units66 hr
    have hz : (200000 : Nat) < sizeLine := by decide +kernel
    have G_look : Got (cxOf CX0 P w K mg base N_first_row "first_row" (defScope s_first_row) f cdv A outer s H E).nox 4 nf qs fr (vw.map some) (spN ⟨P, w, K⟩ S) := ⟨nok, known.cells, known.nf, fun _ _ _ z => nomatch z⟩
    refine ⟨_, (pss_cons (ps_set (i := 1) sc_first_row.nd rfl (Or.inl rfl) (pe_lst (pa_cons (pe_tup (pa_cons pe_int (pa_cons pe_int pa_nil))) pa_nil)))
    (pss_cons (ps_set (i := 2) sc_first_row.nd rfl (Or.inl rfl) (pe_lst (pa_cons (pe_lst pa_nil) pa_nil)))
    (pss_cons (ps_set (i := 3) sc_first_row.nd rfl (Or.inl rfl) (pe_disp1N (pe_tup (pa_cons pe_int (pa_cons pe_int pa_nil))) pe_bl hu))
    (pss_cons (ps_set (i := 4) sc_first_row.nd rfl (Or.inl rfl) pe_int)
    (pss_cons (ps_while PassesOwn.never (pt_cmpR op_uLt (pv 4) (pe_callB (call_lenB ⟨P, w, K⟩ rfl hu) (by rfl) TX.n_len (by decide +kernel) (pa_cons (pv 1) pa_nil)) (nomark _)) (pss_cons (ps_asg (pe_look (i := 0) G_look (hr.mono (by decide)) (by rfl) (Or.inl rfl) (pa_cons (pe_ix (ix_B ⟨P, w, K⟩ rfl hu) (pv 1) (pv 4) (fun _ _ => rfl)) pa_nil)) (pg_tupB ⟨P, w, K⟩ rfl 2 rfl (pgs_cons (pg_name (i := 5) sc_first_row.nd rfl (Or.inl rfl)) (pgs_cons (pg_name (i := 6) sc_first_row.nd rfl (Or.inl rfl)) pgs_nil))))
    (pss_cons (ps_if (pt_cmpR op_notN (pv 5) pe_non (nomark _)) (pss_one (ps_ret (pe_op (op_addB ⟨P, w, K⟩ rfl) (pe_ix (ix_B ⟨P, w, K⟩ rfl hu) (pv 2) (pv 4) (fun _ _ => rfl)) (pv 5)))) pss_nil)
    (pss_cons (ps_for PassesOwn.never rfl (pi_listB ⟨P, w, K⟩ rfl (pv 6)) (pg_tupB ⟨P, w, K⟩ rfl 2 rfl (pgs_cons (pg_name (i := 7) sc_first_row.nd rfl (Or.inl rfl)) (pgs_cons (pg_name (i := 8) sc_first_row.nd rfl (Or.inl rfl)) pgs_nil))) (pss_one (ps_if (pt_cmpR (op_notInB ⟨P, w, K⟩ rfl hu) (pv 8) (pv 3) (by with_unfolding_all rfl)) (pss_cons (ps_asg pe_bl (pg_sub (pv 3) (pv 8) (set_B ⟨P, w, K⟩ rfl hu)))
    (pss_cons (ps_expr (pe_bm PySem.F.plainAttrs_list PySem.F.slot_list_append PySem.F.type_list_append mt_append (pv 1) (pa_cons (pv 8) pa_nil)))
    (pss_one (ps_expr (pe_bm PySem.F.plainAttrs_list PySem.F.slot_list_append PySem.F.type_list_append mt_append (pv 2) (pa_cons (pe_op (op_addB ⟨P, w, K⟩ rfl) (pe_ix (ix_B ⟨P, w, K⟩ rfl hu) (pv 2) (pv 4) (fun _ _ => rfl)) (pe_lst (pa_cons (pv 7) pa_nil))) pa_nil)))))) pss_nil)))
    (pss_one (ps_aug (i := 4) sc_first_row.nd rfl (Or.inl rfl) pe_int ip_add))))))
    (pss_one (ps_ret pe_non))))))), ?_⟩
    refine run_P (n := 8) fh hd rfl q ?_
    dsimp only [cxOf]
    refine es_seq ?_
    walk_at "e"
    refine ⟨[.int 0, .int 0], rfl, (show 2 ≤ sizeLine by omega), ?_⟩
    walk_at "e"
    refine ⟨[duoE.ek (0, 0)], rfl, (show 1 ≤ sizeLine by omega), fun pp => ?_⟩
    walk_at "e"
    refine es_seq ?_
    walk_at "e"
    refine ⟨[], rfl, (show 0 ≤ sizeLine by omega), fun p0 => ?_⟩
    walk_at "e"
    refine ⟨[.lst []], rfl, (show 1 ≤ sizeLine by omega), fun pr => ?_⟩
    walk_at "e"
    refine es_seq ?_
    refine es_asg (ev_disp1N duoE T.bl ?_)
    walk_at "e"
    refine ⟨[.int 0, .int 0], rfl, (show 2 ≤ sizeLine by omega), (0, 0), rfl, ?_⟩
    refine ev_bl ⟨true, Pu.d, fun pd => ?_⟩
    refine gt_name all_in ?_
    refine es_seq ?_
    walk_at "e"
    let bad : Duo → Prop := fun p => (rest p).isSome = true
    let δ0 : List Duo → List (List K3) → Nat → SV → SV → SV → SV → List SV := fun ps rs i x5 x6 x7 x8 => [.d (.fn nf), .own pp (.lst (ps.map duoE.ek)), .own pr (.lst (rs.map eRow)), .own pd (.N duoE T.bl (ps.map fun p => (p, true))), .d (.int (i : Nat)), x5, x6, x7, x8]
    refine es_seqJ (fun δ => ∃ ps rs i x5 x6 x7 x8, BF.BI klt W bad (0, 0) ps rs i [] ∧ ps.length ≤ i ∧ δ = δ0 ps rs i x5 x6 x7 x8) ?_ ?_
    · refine es_while (fun m δ => ∃ ps rs i x5 x6 x7 x8, BF.BI klt W bad (0, 0) ps rs i [] ∧ (∀ p ∈ ps, p ∈ N) ∧ (∀ (k : Nat) (r : List K3), rs[k]? = some r → r.length ≤ k) ∧ m = N.length - i ∧ δ = δ0 ps rs i x5 x6 x7 x8) _ ⟨[(0, 0)], [[]], 0, _, _, _, _, BF.BI.start klt_ord, fun p hp => by rw [List.mem_singleton.mp hp]; exact h0, fun k r hk => by
        match k, hk with
        | 0, hk => cases hk; exact Nat.le_refl _
        | k + 1, hk => simp at hk, rfl, rfl⟩ ?_
      rintro m δ ⟨ps, rs, i, x5, x6, x7, x8, hb, hin, hrl, rfl, rfl⟩
      have hpl := sub_len hb.nd hin
      walk_at "e"
      refine ulen_L (LstV.o ⟨1, .inl rfl⟩) ?_
      walk_at "e"
      refine ite2 (fun h => ?_) (fun h => ?_)
      · have hi : i < ps.length := by simpa using h
        have hir : i < rs.length := by rw [hb.len]; exact hi
        have hp : ps[i]? = some ps[i] := List.getElem?_eq_getElem hi
        have hra : rs[i]? = some rs[i] := List.getElem?_eq_getElem hir
        generalize ps[i] = p at hp
        generalize rs[i] = ra at hra
        have hpN := hin p (List.mem_of_getElem? hp)
        have la := hlk p hpN
        have hral := hrl i ra hra
        refine es_seq ?_
        refine es_asg (ev_look (q := nf) (tw := tw) (by rfl) hw ?_)
        walk_at "e"
        refine uix_L (LstV.o ⟨1, .inl rfl⟩) (t := duoE.ek p) (atI_nat (by rw [List.getElem?_map, hp]; rfl)) ?_
        refine ⟨_, Pu.d, ea_nil ⟨[duoE.ek p], rfl, rfl, la.s _ ?_⟩⟩
        refine gt_tup rfl (gts_cons (gt_name all_in (gts_cons (gt_name all_in (gts_nil ?_)))))
        refine es_seq ?_
        refine es_if (et_val (ev_op (ev_var (by rfl) ⟨_, Pu.d, ev_non ⟨_, Pu.d, ?_⟩⟩)))
        cases hrest : rest p with
        | some r0 =>
          refine o2_notN (b := false) (fun B F v h => ?_) ⟨_, rfl, ?_⟩
          · simp only [eRest, DV] at h
            obtain ⟨a, xs, rfl, _⟩ := h
            exact decide_eq_false (by intro z; cases z)
          refine ite2 (fun _ => ?_) (fun h => absurd rfl h)
          refine es_ret (ev_op (ev_op (ev_ptr (a := pr) (.inl (by rfl)) ⟨_, Pu.ptr, ev_var (by rfl) ⟨_, Pu.d, ?_⟩⟩)))
          refine uix_L (LstV.o ⟨2, .inl rfl⟩) (t := eRow ra) (atI_nat (by rw [List.getElem?_map, hra]; rfl)) ⟨_, Pu.d, ev_var (by rfl) ⟨_, Pu.d, ?_⟩⟩
          have hr0 := la.r r0 hrest
          refine o2_cat LstV.d LstV.d (by rw [List.length_map, List.length_map]; omega) fun p4 => ?_
          obtain ⟨h1, h2⟩ := hb.found klt_ord hp hra
          have := hk1 ra p r0 h1 hrest fun r' q' h3 h4 => h2 r' q' h3 h4
          rw [List.map_append] at this
          exact this
        | none =>
          refine o2_notN (b := true) (fun B F v h => ?_) ⟨_, rfl, ?_⟩
          · simp only [eRest, DV] at h
            exact decide_eq_true h
          refine ite2 (fun h => nomatch h) (fun _ => ?_)
          refine es_next ?_
          have nb : ¬ bad p := by show ¬ (rest p).isSome = true; rw [hrest]; decide
          let δ1 : List Duo → List (List K3) → SV → SV → List SV := fun ps rs x7 x8 => δ0 ps rs i (.d .non) (.d (.lst ((W p).map eW))) x7 x8
          refine es_seqJ (fun δ => ∃ ps' rs' x7 x8, BF.BI klt W bad (0, 0) ps' rs' i (W p) ∧ (∀ p ∈ ps', p ∈ N) ∧ (∀ (k : Nat) (r : List K3), rs'[k]? = some r → r.length ≤ k) ∧ ps'[i]? = some p ∧ δ = δ1 ps' rs' x7 x8) ?_ ?_
          · refine es_forI (ei_L (ev_var (by rfl) ⟨_, Pu.d, ?_⟩))
            refine ⟨fun j δ => ∃ ps' rs' x7 x8, BF.BI klt W bad (0, 0) ps' rs' i ((W p).take j) ∧ (∀ p ∈ ps', p ∈ N) ∧ (∀ (k : Nat) (r : List K3), rs'[k]? = some r → r.length ≤ k) ∧ ps'[i]? = some p ∧ rs'[i]? = some ra ∧ δ = δ1 ps' rs' x7 x8, ⟨ps, rs, _, _, hb, hin, hrl, hp, hra, rfl⟩, fun _ _ _ => trivial, ?_, ?_⟩
            · rintro j t δ htj ⟨ps', rs', x7, x8, hb', hin', hrl', hp', hra', rfl⟩
              rw [List.getElem?_map] at htj
              obtain ⟨⟨k, q'⟩, hkq, rfl⟩ := Option.map_eq_some_iff.mp htj
              have hmem := List.mem_of_getElem? hkq
              have htake : (W p).take (j + 1) = (W p).take j ++ [(k, q')] := by rw [List.take_add_one, hkq]; rfl
              have hsplit : W p = (W p).take j ++ (k, q') :: (W p).drop (j + 1) := by
                have e := List.take_append_drop (j + 1) (W p)
                rw [htake, List.append_assoc] at e
                exact e.symm
              have hq'N := la.cl _ hmem
              have hpl' := sub_len hb'.nd hin'
              have hl' := hb'.len
              refine gt_tup rfl (gts_cons (gt_name all_in (gts_cons (gt_name all_in (gts_nil ?_)))))
              refine es_if (et_val (ev_op (ev_var (by rfl) ⟨_, Pu.d, ev_ptr (a := pd) (.inl (by rfl)) ⟨_, Pu.ptr, ?_⟩⟩)))
              refine uni_N (ke := duoE) (ev := T.bl) (k := q') (m := ps'.map fun p => (p, true)) (DctV.o ⟨3, .inl rfl⟩) ⟨_, rfl, ?_⟩
              by_cases hin2 : q' ∈ ps'
              · have hg : (getM (ps'.map fun p => (p, true)) q').isSome = true := by rw [seen_some]; exact decide_eq_true hin2
                rw [hg]
                refine ite2 (fun h => nomatch h) (fun _ => ?_)
                refine es_next ⟨ps', rs', _, _, ?_, hin', hrl', hp', hra', rfl⟩
                rw [htake]; exact hb'.old hin2
              · have hg0 : (getM (ps'.map fun p => (p, true)) q').isSome = false := by rw [seen_some]; exact decide_eq_false hin2
                have hgn : getM (ps'.map fun p => (p, true)) q' = none := by
                  cases e : getM (ps'.map fun p => (p, true)) q' with
                  | none => rfl
                  | some _ => rw [e] at hg0; cases hg0
                rw [hg0]
                refine ite2 (fun _ => ?_) (fun h => absurd rfl h)
                have hb2 := hb'.new klt_ord hp' hra' hsplit la.so hin2
                rw [← htake] at hb2
                refine es_seq ?_
                walk_at "e"
                refine o3_N (ke := duoE) (ev := T.bl) (k := q') (x := true) (m := ps'.map fun p => (p, true)) 3 rfl (by rw [List.length_map]; omega) ?_
                rw [putM_new hgn]
                refine es_seq ?_
                walk_at "e"
                refine ⟨⟨_, 1, .inl rfl⟩, ?_⟩
                walk_at "e"
                refine appO 1 (ts := ps'.map duoE.ek) rfl (by rw [List.length_map]; omega) ?_
                walk_at "e"
                refine ⟨⟨_, 2, .inl rfl⟩, ?_⟩
                walk_at "e"
                refine uix_L (LstV.o ⟨2, .inl rfl⟩) (t := eRow ra) (atI_nat (by rw [List.getElem?_map, hra']; rfl)) ?_
                walk_at "e"
                refine ⟨[eK k], rfl, (show 1 ≤ sizeLine by omega), fun p5 => ⟨_, Pu.fr, ?_⟩⟩
                refine o2_cat LstV.d LstV.d (by rw [List.length_map]; show _ + 1 ≤ _; omega) fun p6 => ⟨_, Pu.fr, ?_⟩
                refine appO 2 (ts := rs'.map eRow) rfl (by rw [List.length_map]; omega) ?_
                refine ⟨ps' ++ [q'], rs' ++ [ra ++ [k]], .d (eK k), .d (duoE.ek q'), hb2, fun x hx => ?_, fun u r hu2 => ?_, ?_, ?_, ?_⟩
                · rcases List.mem_append.mp hx with hx | hx
                  · exact hin' x hx
                  · rw [List.mem_singleton.mp hx]; exact hq'N
                · by_cases hlt : u < rs'.length
                  · rw [List.getElem?_append_left hlt] at hu2; exact hrl' u r hu2
                  · rw [List.getElem?_append_right (by omega)] at hu2
                    have e0 : u - rs'.length = 0 := by have := (List.getElem?_eq_some_iff.mp hu2).1; simp at this; omega
                    rw [e0] at hu2
                    have e1 : r = ra ++ [k] := by simpa using hu2.symm
                    have hi' := (List.getElem?_eq_some_iff.mp hra').1
                    rw [e1, List.length_append]
                    show ra.length + 1 ≤ u
                    omega
                · rw [List.getElem?_append_left (List.getElem?_eq_some_iff.mp hp').1]; exact hp'
                · rw [List.getElem?_append_left (List.getElem?_eq_some_iff.mp hra').1]; exact hra'
                · show _ = δ1 (ps' ++ [q']) (rs' ++ [ra ++ [k]]) _ _
                  simp only [δ1, δ0, List.map_append, List.map_cons, List.map_nil, eRow]
                  rfl
            · rintro δ ⟨ps', rs', x7, x8, hb', hin', hrl', hp', hra', rfl⟩
              rw [List.length_map, List.take_length] at hb'
              exact ⟨ps', rs', _, _, hb', hin', hrl', hp', rfl⟩
          · rintro δ ⟨ps', rs', x7, x8, hb', hin', hrl', hp', rfl⟩
            have hpl' := sub_len hb'.nd hin'
            have hi' := (List.getElem?_eq_some_iff.mp hp').1
            refine es_augI (x := i) rfl ?_
            walk_at "e"
            exact ⟨_, by omega, ps', rs', i + 1, _, _, _, _, hb'.next hp' rfl nb, hin', hrl', rfl, rfl⟩
      · have hi : ¬ i < ps.length := by simpa using h
        exact ⟨ps, rs, i, _, _, _, _, hb, by omega, rfl⟩
    · rintro δ ⟨ps, rs, i, x5, x6, x7, x8, hb, hi, rfl⟩
      walk_at "d"
      exact hk2 fun r q' hr hq => hb.none hi r q' hr hq
end
end K

namespace K
open PySem L2 DL
local macro_rules | `(tactic| walk_at "dl") => `(tactic| with_reducible first
  | refine es_if ?_ | refine es_append ?_ | refine es_sub ?_ | refine es_par3 ?_ | refine es_parD ?_ | refine es_asg ?_ | refine es_ret ?_ | refine es_retN ?_ | refine es_next ?_ | refine es_drop ?_ | refine es_break ?_ | refine es_cont ?_
  | refine et_val ?_ | refine et_B ?_ | refine et_not ?_ | refine et_and ?_ | refine et_or ?_ | refine et_yes ?_
  | refine ev_op ?_ | refine ev_un ?_ | refine ev_cb ?_ | refine ev_tup ?_ | refine ev_lst ?_ | refine ev_ifx ?_ | refine ev_andV ?_ | refine ev_orV ?_ | refine ev_notV ?_ | refine ev_sl ?_
  | refine ea_cons ?_ | refine ea_nil ?_ | refine ev_int ?_ | refine ev_str ?_ | refine ev_bl ?_ | refine ev_non ?_ | refine eo_none ?_ | refine eo_some ?_
  | refine gts_cons ?_ | refine gts_nil ?_
  | refine o2_addI ?_ | refine o2_ltI ?_ | refine o2_leI ?_ | refine o2_gtI ?_ | refine o2_geI ?_ | refine o2_ltS ?_ | refine o2_leS ?_ | refine o2_gtS ?_ | refine o2_sub ?_
  | refine oa_intI ?_ | refine oa_intB ?_ | refine oa_abs ?_ | refine oa_two ?_ | refine ulen_R ?_ | refine ulen_T ?_ | refine ulen_L LstV.d ?_
  | (refine ⟨_, Pu.d, ?_⟩) | (refine ⟨_, Pu.ptr, ?_⟩) | (refine ⟨_, Pu.fr, ?_⟩))
local macro_rules | `(tactic| walk_at "dv") => `(tactic| first
  | refine ev_var (by rfl) ?_ | refine ev_ptr (.inl (by rfl)) ?_ | refine ev_ptr (.inr (.inl (by rfl))) ?_ | refine ev_ptr (.inr (.inr (by rfl))) ?_
  | refine uix_L (LstV.o ⟨0, .inr (by rfl)⟩) (by rfl) ?_ | refine uix_L LstV.d (by rfl) ?_ | refine uix_T (by rfl) ?_
  | refine gt_tup (by rfl) ?_ | refine gt_name (by first | exact all_in | simp) ?_ | refine ⟨_, rfl, ?_⟩)
local macro_rules | `(tactic| walk_at "e") => `(tactic| repeat (first | walk_at "dl" | walk_at "dv"))
local macro_rules | `(tactic| walk_at "d") => `(tactic| repeat (first | with_reducible refine es_seq ?_ | walk_at "dl" | walk_at "dv"))
section
variable {P : Program} {w : World} {K : PySem.W.Frag} {mg : Str → Option Value} {base : Heap}
/-! ### who stands for whom, room by room -/
/-- the signs that a room of a plain service may show -/
def Sgn (x : Str) : Prop := x = "!" ∨ x = "?" ∨ x = ""
theorem Sgn.sh {x : Str} (h : Sgn x) : SeqAt.shaped (.str x) = true := by
  rcases h with rfl | rfl | rfl <;> decide +kernel
theorem str_eqvS (a b : Str) : PyData.eqv (.str a) (.str b) = decide (a = b) := by
  rw [PyData.eqv]
  first | rfl | simp
def signR : Room → Str
  | [] => ""
  | s :: _ => s.1
abbrev s_sign_of : Stmt := topS 32
abbrev N_sign_of : List Str := ["room"]
theorem sc_sign_of : FnScope N_sign_of ["room"] (defScope s_sign_of) := ⟨rfl, rfl, rfl, by decide +kernel, rfl, by decide +kernel, by decide +kernel⟩

def SSignOf : List T → (RT → Prop) → Prop := fun ts P => ∃ r : Room, ts = [eRoom r] ∧ P (.d (.str (signR r)))
theorem ok_sign_of {f : Addr} {fd : FuncData} (Fn : Fun K "sign_of" "sign_of" s_sign_of f fd) (TX : TXF mg) : FnOk P w K mg base CX0 1 f fd ["room"] (spP ⟨P, w, K⟩ SSignOf) := by
  refine Fn.ok sc_sign_of (fun vs H Q E h => ?_) (fun cdv A outer s H vs Q E hr h => ?_)
  · obtain ⟨F, ts, _, hd, P, ⟨_, rfl, _⟩, _⟩ := h
    rw [hd.length]; rfl
  · obtain ⟨F, ts, fh, hd, PP, ⟨r, rfl, hk⟩, q⟩ := h
    have hu := hr.units
    refine ⟨_, (pss_one (ps_ret (pe_ifExp (pt_truth (pv 0) (by intro _; rfl)) (pe_ix (ix_B ⟨P, w, K⟩ rfl hu) (pe_ix (ix_B ⟨P, w, K⟩ rfl hu) (pv 0) pe_int (fun _ _ => rfl)) pe_int (fun _ _ => rfl)) pe_str))), ?_⟩
    refine run_P (n := 0) fh hd rfl q ?_
    dsimp only [cxOf]
    refine es_ret (ev_ifx (et_truth (ev_var (by rfl) ⟨_, Pu.d, _, .lst LstV.d, ?_⟩)))
    cases r with
    | nil =>
      refine ite2 (fun h => nomatch h) (fun _ => ?_)
      exact ev_str hk
    | cons st r =>
      refine ite2 (fun _ => ?_) (fun h => absurd rfl h)
      walk_at "e"
      refine uix_L LstV.d (t := eS st) (atI_int (by decide) (by rfl)) ?_
      walk_at "e"
      exact hk
/-- a room has all steps of another one -/
def hasB (r t : Room) : Bool := (t.map fun s => (getM (ways r) (kyOf s)).isSome).all id
abbrev s_has_steps_of : Stmt := topS 33
abbrev N_has_steps_of : List Str := ["room", "partner", "mine", "step"]
theorem sc_has_steps_of : FnScope N_has_steps_of ["room", "partner"] (defScope s_has_steps_of) := ⟨rfl, rfl, rfl, by decide +kernel, rfl, by decide +kernel, by decide +kernel⟩

def SHasOf : List T → (RT → Prop) → Prop := fun ts P => ∃ r t : Room, r.length < sizeLine ∧ t.length < sizeLine ∧ (t.map kyOf).Nodup ∧ ts = [eRoom r, eRoom t] ∧ P (.d (.bl (hasB r t)))
theorem ok_has_steps_of {f : Addr} {fd : FuncData} (Fn : Fun K "has_steps_of" "has_steps_of" s_has_steps_of f fd) (TX : TXF mg) (C_next_rooms : Cal P w K mg base CX0 "next_rooms" 1 ["room"] (spP ⟨P, w, K⟩ SNext)) : FnOk P w K mg base CX0 2 f fd ["room", "partner"] (spP ⟨P, w, K⟩ SHasOf) := by
  refine Fn.ok sc_has_steps_of (fun vs H Q E h => ?_) (fun cdv A outer s H vs Q E hr h => ?_)
  · obtain ⟨F, ts, _, hd, P, ⟨_, _, _, _, _, rfl, _⟩, _⟩ := h
    rw [hd.length]; rfl
  · obtain ⟨F, ts, fh, hd, PP, ⟨r, t, hzr, hzt, nd, rfl, hk⟩, q⟩ := h
    have hu := hr.units
    refine ⟨_, (pss_cons (ps_set (i := 2) sc_has_steps_of.nd rfl (Or.inr rfl) (pe_call C_next_rooms.ok (hr.mono (by decide)) (by rfl) C_next_rooms.mg C_next_rooms.kp C_next_rooms.bd .nil pass0 (pa_cons (pv 0) pa_nil)))
    (pss_one (ps_ret (pe_callB (call_allB ⟨P, w, K⟩ rfl rfl) (by rfl) TX.n_all (by decide +kernel) (pa_cons (pe_lc (own := [("step", 3)]) (by rfl) sc_has_steps_of.nd (pi_keysN (pe_call C_next_rooms.ok (hr.mono (by decide)) (by rfl) C_next_rooms.mg C_next_rooms.kp C_next_rooms.bd .nil pass0 (pa_cons (pv 1) pa_nil))) (blkOk_by (N := N_has_steps_of) (sc := defScope s_has_steps_of) (by decide +kernel)) (fun _ _ _ _ _ => (pg_name (i := 3) sc_has_steps_of.nd rfl (Or.inl rfl))) (fun _ _ _ _ _ => pts_nil) (fun _ _ _ _ _ => (pe_cmpR (op_inB ⟨P, w, K⟩ rfl hu) (pv 3) (pv 2) (by with_unfolding_all rfl)))) pa_nil))))), ?_⟩
    refine run_P (n := 2) fh hd rfl q ?_
    dsimp only [cxOf]
    refine es_seq ?_
    refine es_asg (ev_callPn (ea_cons (ev_var (by rfl) ⟨_, Pu.d, ea_nil ⟨[eRoom r], rfl, r, hzr, rfl, fun pm => ?_⟩⟩)))
    refine gt_name all_in ?_
    have hw := ways_nodup nd
    have hlen : (ways t).length = t.length := by rw [hw, List.length_map]
    refine es_ret (ev_cb (ea_cons (ev_lcI (ei_keysF (ev_callPn (ea_cons (ev_var (by rfl) ⟨_, Pu.d, ea_nil ⟨[eRoom t], rfl, t, hzt, rfl, fun pt => ⟨_, _, _, rfl, ?_⟩⟩⟩))))))) 
    refine ⟨by rw [List.length_map, hlen]; omega, fun i acc δ => acc = ((t.take i).map fun s => (getM (ways r) (kyOf s)).isSome).map T.bl ∧ δ = [.d (eRoom r), .d (eRoom t), .own pm (.N k3e T.int (ways r)), .no], ⟨rfl, rfl⟩, fun _ _ _ _ => trivial, ?_, ?_⟩
    · rintro i tt acc δ hti _ ⟨rfl, rfl⟩
      rw [List.getElem?_map, hw, List.getElem?_map] at hti
      obtain ⟨p, hp, rfl⟩ := Option.map_eq_some_iff.mp hti
      obtain ⟨st, hst, rfl⟩ := Option.map_eq_some_iff.mp hp
      walk_at "d"
      refine ite2 (fun _ => ?_) (fun h => nomatch h)
      walk_at "d"
      refine uin_N (ke := k3e) (ev := T.int) (k := kyOf st) (m := ways r) (DctV.o ⟨2, .inl rfl⟩) ?_
      refine ⟨_, Pu.d, ?_, rfl⟩
      rw [List.take_add_one, hst]; simp
    · rintro acc δ _ ⟨rfl, rfl⟩ p
      rw [List.length_map, hlen, List.take_length]
      refine ⟨_, Pu.fr, ea_nil ?_⟩
      exact oa_all LstV.d hk
/-- a room that a partner's may stand for -/
def standsB (t r : Room) : Bool := decide (signR t = signR r) && if signR r = "?" then hasB t r else hasB r t
abbrev s_stands : Stmt := topS 34
abbrev N_stands : List Str := ["partner", "room"]
theorem sc_stands : FnScope N_stands ["partner", "room"] (defScope s_stands) := ⟨rfl, rfl, rfl, by decide +kernel, rfl, by decide +kernel, by decide +kernel⟩

def SStands : List T → (RT → Prop) → Prop := fun ts P => ∃ t r : Room, r.length < sizeLine ∧ t.length < sizeLine ∧ (r.map kyOf).Nodup ∧ (t.map kyOf).Nodup ∧ Sgn (signR r) ∧ Sgn (signR t) ∧ ts = [eRoom t, eRoom r] ∧ P (.d (.bl (standsB t r)))
theorem ok_stands {f : Addr} {fd : FuncData} (Fn : Fun K "stands" "stands" s_stands f fd) (TX : TXF mg) (C_sign_of : Cal P w K mg base CX0 "sign_of" 1 ["room"] (spP ⟨P, w, K⟩ SSignOf)) (C_has_steps_of : Cal P w K mg base CX0 "has_steps_of" 2 ["room", "partner"] (spP ⟨P, w, K⟩ SHasOf)) : FnOk P w K mg base CX0 3 f fd ["partner", "room"] (spP ⟨P, w, K⟩ SStands) := by
  refine Fn.ok sc_stands (fun vs H Q E h => ?_) (fun cdv A outer s H vs Q E hr h => ?_)
  · obtain ⟨F, ts, _, hd, P, ⟨_, _, _, _, _, _, _, _, rfl, _⟩, _⟩ := h
    rw [hd.length]; rfl
  · obtain ⟨F, ts, fh, hd, PP, ⟨t, r, hzr, hzt, ndr, ndt, sgr, sgt, rfl, hk⟩, q⟩ := h
    have hu := hr.units
    unfold standsB at hk
    refine ⟨_, (pss_cons (ps_if (pt_cmpR (op_neB ⟨P, w, K⟩ rfl hu) (pe_call C_sign_of.ok (hr.mono (by decide)) (by rfl) C_sign_of.mg C_sign_of.kp C_sign_of.bd .nil pass0 (pa_cons (pv 0) pa_nil)) (pe_call C_sign_of.ok (hr.mono (by decide)) (by rfl) C_sign_of.mg C_sign_of.kp C_sign_of.bd .nil pass0 (pa_cons (pv 1) pa_nil)) (nomark _)) (pss_one (ps_ret pe_bl)) pss_nil)
    (pss_cons (ps_if (pt_cmpR (op_eqB ⟨P, w, K⟩ rfl hu) (pe_call C_sign_of.ok (hr.mono (by decide)) (by rfl) C_sign_of.mg C_sign_of.kp C_sign_of.bd .nil pass0 (pa_cons (pv 1) pa_nil)) pe_str (nomark _)) (pss_one (ps_ret (pe_call C_has_steps_of.ok (hr.mono (by decide)) (by rfl) C_has_steps_of.mg C_has_steps_of.kp C_has_steps_of.bd .nil pass0 (pa_cons (pv 0) (pa_cons (pv 1) pa_nil))))) pss_nil)
    (pss_one (ps_ret (pe_call C_has_steps_of.ok (hr.mono (by decide)) (by rfl) C_has_steps_of.mg C_has_steps_of.kp C_has_steps_of.bd .nil pass0 (pa_cons (pv 1) (pa_cons (pv 0) pa_nil))))))), ?_⟩
    refine run_P (n := 0) fh hd rfl q ?_
    dsimp only [cxOf]
    refine es_seq ?_
    refine es_if (et_val (ev_op (ev_callPn (ea_cons (ev_var (by rfl) ⟨_, Pu.d, ea_nil ⟨[eRoom t], rfl, t, rfl, ⟨_, Pu.d, ?_⟩⟩⟩)))))
    refine ev_callPn (ea_cons (ev_var (by rfl) ⟨_, Pu.d, ea_nil ⟨[eRoom r], rfl, r, rfl, ⟨_, Pu.d, ?_⟩⟩⟩))
    refine o2_ne rfl rfl sgt.sh sgr.sh (str_eqvS _ _) ⟨_, rfl, ?_⟩
    by_cases e1 : signR t = signR r
    · rw [decide_eq_true e1, Bool.true_and] at hk
      rw [decide_eq_true e1]
      refine ite2 (fun h => nomatch h) (fun _ => ?_)
      refine es_next ?_
      refine es_seq ?_
      refine es_if (et_val (ev_op (ev_callPn (ea_cons (ev_var (by rfl) ⟨_, Pu.d, ea_nil ⟨[eRoom r], rfl, r, rfl, ⟨_, Pu.d, ?_⟩⟩⟩)))))
      walk_at "e"
      refine o2_eq rfl rfl sgr.sh (by decide +kernel) (str_eqvS _ _) ⟨_, rfl, ?_⟩
      by_cases e2 : signR r = "?"
      · rw [if_pos e2] at hk
        rw [decide_eq_true e2]
        refine ite2 (fun _ => ?_) (fun h => absurd rfl h)
        refine es_ret (ev_callPn (ea_cons (ev_var (by rfl) ⟨_, Pu.d, ea_cons (ev_var (by rfl) ⟨_, Pu.d, ea_nil ⟨[eRoom t, eRoom r], rfl, t, r, hzt, hzr, ndr, rfl, hk⟩⟩)⟩)))
      · rw [if_neg e2] at hk
        rw [decide_eq_false e2]
        refine ite2 (fun h => nomatch h) (fun _ => ?_)
        refine es_next ?_
        refine es_ret (ev_callPn (ea_cons (ev_var (by rfl) ⟨_, Pu.d, ea_cons (ev_var (by rfl) ⟨_, Pu.d, ea_nil ⟨[eRoom r, eRoom t], rfl, r, t, hzr, hzt, ndt, rfl, hk⟩⟩)⟩)))
    · rw [decide_eq_false e1] at hk
      rw [decide_eq_false e1]
      refine ite2 (fun _ => ?_) (fun h => absurd rfl h)
      exact es_ret (ev_bl hk)
end
end K

namespace K
open PySem L2 DL
local macro_rules | `(tactic| walk_at "dl") => `(tactic| with_reducible first
  | refine es_if ?_ | refine es_append ?_ | refine es_sub ?_ | refine es_par3 ?_ | refine es_parD ?_ | refine es_asg ?_ | refine es_ret ?_ | refine es_retN ?_ | refine es_next ?_ | refine es_drop ?_ | refine es_break ?_ | refine es_cont ?_
  | refine et_val ?_ | refine et_B ?_ | refine et_not ?_ | refine et_and ?_ | refine et_or ?_ | refine et_yes ?_
  | refine ev_op ?_ | refine ev_un ?_ | refine ev_cb ?_ | refine ev_tup ?_ | refine ev_lst ?_ | refine ev_ifx ?_ | refine ev_andV ?_ | refine ev_orV ?_ | refine ev_notV ?_ | refine ev_sl ?_
  | refine ea_cons ?_ | refine ea_nil ?_ | refine ev_int ?_ | refine ev_str ?_ | refine ev_bl ?_ | refine ev_non ?_ | refine eo_none ?_ | refine eo_some ?_
  | refine gts_cons ?_ | refine gts_nil ?_
  | refine o2_addI ?_ | refine o2_ltI ?_ | refine o2_leI ?_ | refine o2_gtI ?_ | refine o2_geI ?_ | refine o2_ltS ?_ | refine o2_leS ?_ | refine o2_gtS ?_ | refine o2_sub ?_
  | refine oa_intI ?_ | refine oa_intB ?_ | refine oa_abs ?_ | refine oa_two ?_ | refine ulen_R ?_ | refine ulen_T ?_ | refine ulen_L LstV.d ?_
  | (refine ⟨_, Pu.d, ?_⟩) | (refine ⟨_, Pu.ptr, ?_⟩) | (refine ⟨_, Pu.fr, ?_⟩))
local macro_rules | `(tactic| walk_at "dv") => `(tactic| first
  | refine ev_var (by rfl) ?_ | refine ev_ptr (.inl (by rfl)) ?_ | refine ev_ptr (.inr (.inl (by rfl))) ?_ | refine ev_ptr (.inr (.inr (by rfl))) ?_
  | refine uix_L (LstV.o ⟨0, .inr (by rfl)⟩) (by rfl) ?_ | refine uix_L LstV.d (by rfl) ?_ | refine uix_T (by rfl) ?_
  | refine gt_tup (by rfl) ?_ | refine gt_name (by first | exact all_in | simp) ?_ | refine ⟨_, rfl, ?_⟩)
local macro_rules | `(tactic| walk_at "e") => `(tactic| repeat (first | walk_at "dl" | walk_at "dv"))
local macro_rules | `(tactic| walk_at "d") => `(tactic| repeat (first | with_reducible refine es_seq ?_ | walk_at "dl" | walk_at "dv"))
section
variable {P : Program} {w : World} {K : PySem.W.Frag} {mg : Str → Option Value} {base : Heap}
abbrev s_law_labels : Stmt := topS 38
abbrev N_law_labels : List Str := ["mint", "many", "letters", "way", "at", "texts_here", "base", "spot", "pace", "k", "turn"]
theorem sc_law_labels : FnScope N_law_labels ["mint", "many"] (defScope s_law_labels) := ⟨rfl, rfl, rfl, by decide +kernel, rfl, by decide +kernel, by decide +kernel⟩

abbrev abc : Str := Str.ofString "abcdefghijklmnopqrstuvwxyz"
theorem abc_cps : abc.cps.toList = (List.range 26).map fun i => 97 + i := by decide +kernel
theorem abc_at {i : Nat} (h : i < 26) : atI abc.cps.toList (i : Int) = some (97 + i) := by
  refine atI_nat ?_
  rw [abc_cps]; simp [h]
theorem abc_len : abc.length ≤ sizeLine := by decide +kernel
theorem name_rep {n k : Nat} (hn : isLetter n) (h1 : 1 ≤ k) (h2 : k ≤ 8) : IsName (Txt.mul ⟨#[n]⟩ (k : Int)) := by
  unfold IsName
  rw [PyProof.Rows.mul_one_list]
  refine ⟨by simp; omega, by simp; omega, fun m hm => ?_⟩
  have := List.eq_of_mem_replicate hm
  subst this; exact hn
abbrev texts12 : List Str := ["say", "hear", "done", "one", "other", "a", "ask", "again", "pair", "lines", "room", "talk"].map Str.ofString
theorem texts12_names : ∀ x ∈ texts12, IsName x := by
  have key : ∀ x ∈ texts12, (1 ≤ x.cps.toList.length ∧ x.cps.toList.length ≤ 8 ∧ x.cps.toList.all (fun n => decide (97 ≤ n) && decide (n ≤ 122)) = true) := by decide +kernel
  intro x hx
  obtain ⟨h1, h2, h3⟩ := key x hx
  refine ⟨h1, h2, fun n hn => ?_⟩
  have := List.all_eq_true.mp h3 n hn
  simp at this
  exact this
theorem join_letters : ∀ ns : List Nat, (Txt.join (Str.ofString "") (ns.map fun n => (⟨#[n]⟩ : Str))).cps.toList = ns := fun ns => by
  rw [join_cps, List.map_map]
  induction ns with
  | nil => rfl
  | cons n ns ih => rw [List.map_cons, List.flatten_cons, ih]; rfl
theorem join_letters_len (ns : List Nat) : (((ns.map fun n => (⟨#[n]⟩ : Str))).map (·.length)).sum = ns.length := by
  induction ns with
  | nil => rfl
  | cons n ns ih => rw [List.map_cons, List.map_cons, List.sum_cons, ih, List.length_cons]; show 1 + ns.length = _; omega
theorem sIx_n (n d k : Nat) : HT.sIx n d (some (k : Int)) = min k n := HT.sIx_nat n d k
theorem cut_len (z : Str) (lo hi : Option Int) : (cutS z lo hi).length ≤ z.length := by
  unfold cutS
  show List.length ((z.cps.toList.drop _).take _) ≤ z.cps.size
  rw [List.length_take, List.length_drop, Array.length_toList]
  omega
/-- a name with one letter exchanged -/
theorem bent_name {base : Str} {spot m : Nat} (hb : IsName base) (hs : spot < base.cps.toList.length) (hm : isLetter m) :
    IsName (cutS base none (some (spot : Int)) ++ ⟨#[m]⟩ ++ cutS base (some ((spot : Int) + 1)) none) := by
  have hl : base.length = base.cps.toList.length := by simp [Str.length]
  have e1 : (cutS base none (some (spot : Int))).cps.toList = base.cps.toList.take spot := by
    unfold cutS
    rw [HT.sIx_none, sIx_n, hl]
    simp
  have e2 : (cutS base (some ((spot : Int) + 1)) none).cps.toList = base.cps.toList.drop (spot + 1) := by
    unfold cutS
    have : ((spot : Int) + 1) = ((spot + 1 : Nat) : Int) := by omega
    rw [this, HT.sIx_none, sIx_n, hl, Nat.min_eq_left (by omega)]
    exact List.take_of_length_le (by rw [List.length_drop]; omega)
  have e : (cutS base none (some (spot : Int)) ++ ⟨#[m]⟩ ++ cutS base (some ((spot : Int) + 1)) none).cps.toList = base.cps.toList.take spot ++ [m] ++ base.cps.toList.drop (spot + 1) := by
    show ((cutS base none (some (spot : Int))).cps ++ #[m] ++ (cutS base (some ((spot : Int) + 1)) none).cps).toList = _
    rw [Array.toList_append, Array.toList_append, e1, e2]
  unfold IsName
  rw [e]
  obtain ⟨h1, h2, h3⟩ := hb
  refine ⟨by simp only [List.length_append, List.length_singleton]; omega, ?_, fun n hn => ?_⟩
  · simp only [List.length_append, List.length_take, List.length_singleton, List.length_drop]; omega
  · rcases List.mem_append.mp hn with hn | hn
    · rcases List.mem_append.mp hn with hn | hn
      · exact h3 n (List.mem_of_mem_take hn)
      · rw [List.mem_singleton] at hn; subst hn; exact hm
    · exact h3 n (List.mem_of_mem_drop hn)
theorem nod_range {F : Nat → Str} {i : Nat} (inj : ∀ a < i, ∀ b < i, F a = F b → a = b) : ((List.range i).map F).Nodup := by
  rw [List.nodup_iff_pairwise_ne, List.pairwise_map]
  have h := List.nodup_iff_pairwise_ne.mp (List.nodup_range (n := i))
  exact List.Pairwise.imp_of_mem (fun ha hb hne e => hne (inj _ (List.mem_range.mp ha) _ (List.mem_range.mp hb) e)) h
theorem nod0 {at_ l many : Nat} (hl : l = many) (hc : many ≤ 9) : ((List.range many).map (fun k : Nat => Txt.mul (⟨#[97 + at_]⟩ : Str) ((k : Int) + 1))).Nodup := nod_range fun a _ b _ e => by
  have e := congrArg (fun z : Str => z.cps.toList.length) e
  rw [show ((a : Int) + 1) = ((a + 1 : Nat) : Int) by omega, show ((b : Int) + 1) = ((b + 1 : Nat) : Int) by omega, PyProof.Rows.mul_one_list, PyProof.Rows.mul_one_list] at e
  simp at e
  omega
theorem texts12_inj : ∀ i < 12, ∀ j < 12, (texts12[i]?).getD Str.empty = (texts12[j]?).getD Str.empty → i = j := by decide +kernel
theorem nod1 {at_ l many : Nat} (hl : l = many) (hc : many ≤ 9) : ((List.range many).map (fun k : Nat => (texts12[(((at_ : Int) + 5 * (k : Int)) % 12).toNat]?).getD Str.empty)).Nodup := nod_range fun a ha b hb e => by
  have := texts12_inj _ (by omega) _ (by omega) e
  omega
theorem nod2 {base : Str} {spot at_ pace l many : Nat} (hl : l = many) (hc : many ≤ 9) (hp : pace = 1 ∨ pace = 3 ∨ pace = 5 ∨ pace = 7 ∨ pace = 11) : ((List.range many).map (fun k : Nat => cutS base none (some (spot : Int)) ++ ⟨#[97 + (((at_ : Int) + (pace : Int) * (k : Int)) % 26).toNat]⟩ ++ cutS base (some ((spot : Int) + 1)) none)).Nodup := nod_range fun a ha b hb e => by
  have e := congrArg (fun z : Str => z.cps.toList) e
  have e : ((cutS base none (some (spot : Int))).cps ++ #[97 + (((at_ : Int) + (pace : Int) * (a : Int)) % 26).toNat] ++ (cutS base (some ((spot : Int) + 1)) none).cps).toList = ((cutS base none (some (spot : Int))).cps ++ #[97 + (((at_ : Int) + (pace : Int) * (b : Int)) % 26).toNat] ++ (cutS base (some ((spot : Int) + 1)) none).cps).toList := e
  rw [Array.toList_append, Array.toList_append, Array.toList_append, Array.toList_append] at e
  have e := List.append_cancel_left (List.append_cancel_right e)
  simp at e
  rcases hp with h | h | h | h | h <;> subst h <;> omega
def SLabels : OW → List T → (OW → RT → Prop) → Prop := fun us ts P => ∃ (n many : Nat), n + 100 < 100000 ∧ Mint n us ∧ 0 < many ∧ many ≤ 9 ∧ ts = [.int many] ∧
  ∀ us' (ls : List Str), Mint (n + 13) us' → ls.length = many → (∀ x ∈ ls, IsName x) → ls.Nodup → P us' (.new (.lst (ls.map .str)))
theorem ok_labels {f : Addr} {fd : FuncData} (Fn : Fun K "_law_labels" "_law_labels" s_law_labels f fd) (TX : TXF mg) (C_law_coin : Cal P w K mg base CX0 "_law_coin" 1 ["mint", "many"] (spM ⟨P, w, K⟩ SCoin)) : FnOk P w K mg base CX0 2 f fd ["mint", "many"] (spM ⟨P, w, K⟩ SLabels) := by
  refine Fn.ok sc_law_labels (fun vs H Q E h => ?_) (fun cdv A outer s H vs Q E hr h => ?_)
  · obtain ⟨F, m, ws, us, ts, rfl, _, _, _, hd, P, ⟨_, _, _, _, _, _, rfl, _⟩, _⟩ := h
    rw [List.length_cons, hd.length]; rfl
  · obtain ⟨F, m, ws, us, ts, rfl, fh, fm, hm, hd, PP, ⟨n, many, hn, hmint, hc0, hc1, rfl, hk⟩, q⟩ := h
    have hu := hr.units
    have hz9 : (100 : Nat) ≤ sizeLine := by decide +kernel
    refine ⟨_, (pss_cons (ps_asg (pe_tup (pa_cons pe_str (pa_cons (pe_call C_law_coin.ok (hr.mono (by decide)) (by rfl) C_law_coin.mg C_law_coin.kp C_law_coin.bd .nil pass0 (pa_cons (pv 0) (pa_cons pe_int pa_nil))) (pa_cons (pe_call C_law_coin.ok (hr.mono (by decide)) (by rfl) C_law_coin.mg C_law_coin.kp C_law_coin.bd .nil pass0 (pa_cons (pv 0) (pa_cons pe_int pa_nil))) pa_nil)))) (pg_tupB ⟨P, w, K⟩ rfl 3 rfl (pgs_cons (pg_name (i := 2) sc_law_labels.nd rfl (Or.inr rfl)) (pgs_cons (pg_name (i := 3) sc_law_labels.nd rfl (Or.inl rfl)) (pgs_cons (pg_name (i := 4) sc_law_labels.nd rfl (Or.inr rfl)) pgs_nil)))))
    (pss_cons (ps_if (PW.pt (pw_and (pt_cmpR (op_eqB ⟨P, w, K⟩ rfl hu) (pv 3) pe_int (nomark _)) (pw_and1 (pt_cmpR op_uLt (pv 1) pe_int (nomark _))))) (pss_one (ps_ret (pe_lc (own := [("k", 9)]) (by rfl) sc_law_labels.nd (pi_range1 (by rfl) TX.n_range (pa_cons (pv 1) pa_nil)) (blkOk_by (N := N_law_labels) (sc := defScope s_law_labels) (by decide +kernel)) (fun _ _ _ _ _ => (pg_name (i := 9) sc_law_labels.nd rfl (Or.inl rfl))) (fun _ _ _ _ _ => pts_nil) (fun _ _ _ _ _ => (pe_op op_uMul (pe_ix (ix_B ⟨P, w, K⟩ rfl hu) (pv 2) (pv 4) (fun _ _ => rfl)) (pe_op (op_addB ⟨P, w, K⟩ rfl) (pv 9) pe_int)))))) pss_nil)
    (pss_cons (ps_if (pt_cmpR (op_eqB ⟨P, w, K⟩ rfl hu) (pv 3) pe_int (nomark _)) (pss_cons (ps_set (i := 5) sc_law_labels.nd rfl (Or.inr rfl) (pe_lst (pa_cons pe_str (pa_cons pe_str (pa_cons pe_str (pa_cons pe_str (pa_cons pe_str (pa_cons pe_str (pa_cons pe_str (pa_cons pe_str (pa_cons pe_str (pa_cons pe_str (pa_cons pe_str (pa_cons pe_str pa_nil))))))))))))))
    (pss_one (ps_ret (pe_lc (own := [("k", 9)]) (by rfl) sc_law_labels.nd (pi_range1 (by rfl) TX.n_range (pa_cons (pv 1) pa_nil)) (blkOk_by (N := N_law_labels) (sc := defScope s_law_labels) (by decide +kernel)) (fun _ _ _ _ _ => (pg_name (i := 9) sc_law_labels.nd rfl (Or.inl rfl))) (fun _ _ _ _ _ => pts_nil) (fun _ _ _ _ _ => (pe_ix (ix_B ⟨P, w, K⟩ rfl hu) (pv 5) (pe_op op_mod (pe_callTy (call_int1') (by rfl) TX.n_int (by decide +kernel) (pa_cons (pe_op (op_addB ⟨P, w, K⟩ rfl) (pv 4) (pe_op op_uMul pe_int (pv 9))) pa_nil)) pe_int) (fun _ _ => rfl))))))) pss_nil)
    (pss_cons (ps_set (i := 6) sc_law_labels.nd rfl (Or.inr rfl) (pe_bm PySem.F.plainAttrs_str PySem.F.slot_str_join PySem.F.type_str_join (mt_joinB ⟨P, w, K⟩ rfl) pe_str (pa_cons (pe_lc (own := [("turn", 10)]) (by rfl) sc_law_labels.nd (pi_range1 (by rfl) TX.n_range (pa_cons (pe_op (op_addB ⟨P, w, K⟩ rfl) pe_int (pe_call C_law_coin.ok (hr.mono (by decide)) (by rfl) C_law_coin.mg C_law_coin.kp C_law_coin.bd .nil pass0 (pa_cons (pv 0) (pa_cons pe_int pa_nil)))) pa_nil)) (blkOk_by (N := N_law_labels) (sc := defScope s_law_labels) (by decide +kernel)) (fun _ _ _ _ _ => (pg_name (i := 10) sc_law_labels.nd rfl (Or.inl rfl))) (fun _ _ _ _ _ => pts_nil) (fun _ _ _ _ _ => (pe_ix (ix_B ⟨P, w, K⟩ rfl hu) (pv 2) (pe_call C_law_coin.ok (hr.mono (by decide)) (by rfl) C_law_coin.mg C_law_coin.kp C_law_coin.bd .nil pass0 (pa_cons (pv 0) (pa_cons pe_int pa_nil))) (fun _ _ => rfl)))) pa_nil)))
    (pss_cons (ps_asg (pe_tup (pa_cons (pe_call C_law_coin.ok (hr.mono (by decide)) (by rfl) C_law_coin.mg C_law_coin.kp C_law_coin.bd .nil pass0 (pa_cons (pv 0) (pa_cons (pe_callB (call_lenB ⟨P, w, K⟩ rfl hu) (by rfl) TX.n_len (by decide +kernel) (pa_cons (pv 6) pa_nil)) pa_nil))) (pa_cons (pe_ix (ix_B ⟨P, w, K⟩ rfl hu) (pe_lst (pa_cons pe_int (pa_cons pe_int (pa_cons pe_int (pa_cons pe_int (pa_cons pe_int pa_nil)))))) (pe_call C_law_coin.ok (hr.mono (by decide)) (by rfl) C_law_coin.mg C_law_coin.kp C_law_coin.bd .nil pass0 (pa_cons (pv 0) (pa_cons pe_int pa_nil))) (fun _ _ => rfl)) pa_nil))) (pg_tupB ⟨P, w, K⟩ rfl 2 rfl (pgs_cons (pg_name (i := 7) sc_law_labels.nd rfl (Or.inr rfl)) (pgs_cons (pg_name (i := 8) sc_law_labels.nd rfl (Or.inr rfl)) pgs_nil))))
    (pss_one (ps_ret (pe_lc (own := [("k", 9)]) (by rfl) sc_law_labels.nd (pi_range1 (by rfl) TX.n_range (pa_cons (pv 1) pa_nil)) (blkOk_by (N := N_law_labels) (sc := defScope s_law_labels) (by decide +kernel)) (fun _ _ _ _ _ => (pg_name (i := 9) sc_law_labels.nd rfl (Or.inl rfl))) (fun _ _ _ _ _ => pts_nil) (fun _ _ _ _ _ => (pe_op (op_addB ⟨P, w, K⟩ rfl) (pe_op (op_addB ⟨P, w, K⟩ rfl) (pe_slice (sl_B ⟨P, w, K⟩ rfl) (pv 6) po_none (po_some (pv 7))) (pe_ix (ix_B ⟨P, w, K⟩ rfl hu) (pv 2) (pe_op op_mod (pe_callTy (call_int1') (by rfl) TX.n_int (by decide +kernel) (pa_cons (pe_op (op_addB ⟨P, w, K⟩ rfl) (pv 4) (pe_op op_uMul (pv 8) (pv 9))) pa_nil)) pe_int) (fun _ _ => rfl))) (pe_slice (sl_B ⟨P, w, K⟩ rfl) (pv 6) (po_some (pe_op (op_addB ⟨P, w, K⟩ rfl) (pv 7) pe_int)) po_none))))))))))), ?_⟩
    refine run_M (n := 9) fh fm hm hd rfl q ?_
    dsimp only [cxOf]
    refine es_seq ?_
    refine es_asg (ev_tup (ea_cons (ev_str ⟨_, Pu.d, ?_⟩)))
    refine ea_cons (ev_coin ?_)
    walk_at "e"
    refine ⟨_, us, n, 4, rfl, rfl, hmint, by omega, by decide, small (by decide), fun us1 way hm1 hw1 hw2 => ⟨_, Pu.d, ?_⟩⟩
    refine ea_cons (ev_coin ?_)
    walk_at "e"
    refine ⟨_, us1, n + 1, 26, rfl, rfl, hm1, by omega, by decide, small (by decide), fun us2 at_ hm2 ha1 ha2 => ⟨_, Pu.d, ea_nil ⟨[.str abc, .int way, .int at_], rfl, (show 3 ≤ sizeLine by omega), ?_⟩⟩⟩
    walk_at "e"
    obtain ⟨at_, rfl⟩ := Int.eq_ofNat_of_zero_le ha1
    have ha2 : at_ < 26 := by omega
    refine es_seqJ (fun δ => δ = [.arg m us2, .d (.int many), .d (.str abc), .d (.int way), .d (.int at_), .no, .no, .no, .no, .no, .no]) ?_ ?_
    · refine es_if (et_and ?_)
      walk_at "e"
      refine o2_eqI ⟨_, rfl, ?_⟩
      have rest : ES (⟨⟨P, w, K⟩, F, H, some m, [], fun _ h => absurd h List.not_mem_nil⟩ : Cn) tNext [.arg m us2, .d (.int many), .d (.str abc), .d (.int way), .d (.int at_), .no, .no, .no, .no, .no, .no] { rt := fun δ r => ∃ us', δ[0]? = some (.arg m us') ∧ RTr (PP us') r, nx := fun δ => δ = [.arg m us2, .d (.int many), .d (.str abc), .d (.int way), .d (.int at_), .no, .no, .no, .no, .no, .no] } := es_next rfl
      refine ite2 (fun _ => ?_) (fun _ => ?_)
      · walk_at "e"
        refine ite2 (fun h9 => ?_) (fun _ => rest)
        have h9 : (many : Int) < 9 := by simpa using h9
        walk_at "e"
        refine ev_lcI (ei_R (ea_cons (ev_var (by rfl) ⟨_, Pu.d, ea_nil ?_⟩)))
        refine ⟨many, rfl, by omega, by rw [List.length_map, List.length_range]; omega, fun i acc δ => ∃ ls : List Str, acc = ls.map T.str ∧ ls.length = i ∧ ((∀ x ∈ ls, IsName x) ∧ ls = (List.range i).map (fun k : Nat => Txt.mul (⟨#[97 + at_]⟩ : Str) ((k : Int) + 1))) ∧ δ = [.arg m us2, .d (.int many), .d (.str abc), .d (.int way), .d (.int at_), .no, .no, .no, .no, .no, .no], ⟨[], rfl, rfl, ⟨(fun _ h => nomatch h), rfl⟩, rfl⟩, fun _ _ _ _ => trivial, ?_, ?_⟩
        · rintro i t acc δ ht _ ⟨ls, rfl, hl, ⟨hls, hF⟩, rfl⟩
          have hi : i < many := by
            have := (List.getElem?_eq_some_iff.mp ht).1
            simpa using this
          have et : t = .int (i : Nat) := by
            rw [List.getElem?_map, List.getElem?_range hi] at ht
            simpa using ht.symm
          subst et
          walk_at "d"
          refine ite2 (fun _ => ?_) (fun h => nomatch h)
          walk_at "d"
          refine uix_S abc_len (abc_at ha2) ?_
          walk_at "d"
          refine o2_mulS (mulOk_one (by omega) (by omega)) ?_
          refine ⟨_, Pu.d, ls ++ [Txt.mul ⟨#[97 + at_]⟩ ((i : Int) + 1)], by rw [List.map_append]; rfl, by rw [List.length_append, hl]; rfl, ⟨fun x hx => ?_, by rw [hF, List.range_succ, List.map_append]; rfl⟩, rfl⟩
          rcases List.mem_append.mp hx with hx | hx
          · exact hls x hx
          · rw [List.mem_singleton] at hx; subst hx
            have := name_rep (n := 97 + at_) (k := i + 1) ⟨by omega, by omega⟩ (by omega) (by omega)
            rwa [show (((i + 1 : Nat) : Int)) = (i : Int) + 1 by omega] at this
        · rintro acc δ _ ⟨ls, rfl, hl, hls, rfl⟩ p1
          rw [List.length_map, List.length_range] at hl hls
          exact ⟨us2, rfl, hk us2 ls (hm2.mono (by omega)) hl hls.1 (by rw [hls.2]; exact nod0 hl hc1)⟩
      · exact rest
    · rintro δ rfl
      refine es_seqJ (fun δ => δ = [.arg m us2, .d (.int many), .d (.str abc), .d (.int way), .d (.int at_), .no, .no, .no, .no, .no, .no]) ?_ ?_
      · refine es_if ?_
        walk_at "e"
        refine o2_eqI ⟨_, rfl, ?_⟩
        refine ite2 (fun _ => ?_) (fun _ => es_next rfl)
        refine es_seq ?_
        walk_at "e"
        refine ⟨texts12.map T.str, rfl, (show 12 ≤ sizeLine by decide +kernel), fun p1 => ?_⟩
        walk_at "e"
        refine ev_lcI (ei_R (ea_cons (ev_var (by rfl) ⟨_, Pu.d, ea_nil ?_⟩)))
        refine ⟨many, rfl, by omega, by rw [List.length_map, List.length_range]; omega, fun i acc δ => ∃ ls : List Str, acc = ls.map T.str ∧ ls.length = i ∧ ((∀ x ∈ ls, IsName x) ∧ ls = (List.range i).map (fun k : Nat => (texts12[(((at_ : Int) + 5 * (k : Int)) % 12).toNat]?).getD Str.empty)) ∧ δ = [.arg m us2, .d (.int many), .d (.str abc), .d (.int way), .d (.int at_), .own p1 (.lst (texts12.map T.str)), .no, .no, .no, .no, .no], ⟨[], rfl, rfl, ⟨(fun _ h => nomatch h), rfl⟩, rfl⟩, fun _ _ _ _ => trivial, ?_, ?_⟩
        · rintro i t acc δ ht _ ⟨ls, rfl, hl, ⟨hls, hF⟩, rfl⟩
          have hi : i < many := by
            have := (List.getElem?_eq_some_iff.mp ht).1
            simpa using this
          have et : t = .int (i : Nat) := by
            rw [List.getElem?_map, List.getElem?_range hi] at ht
            simpa using ht.symm
          subst et
          walk_at "d"
          refine ite2 (fun _ => ?_) (fun h => nomatch h)
          walk_at "d"
          refine o2_mulI (.inr ⟨by omega, by omega⟩) ?_
          walk_at "d"
          refine o2_mod (by decide) ?_
          walk_at "d"
          obtain ⟨z, hz, hz2⟩ : ∃ z : Nat, ((at_ : Int) + 5 * (i : Int)) % 12 = z ∧ z < 12 := by
            refine ⟨(((at_ : Int) + 5 * (i : Int)) % 12).toNat, ?_, ?_⟩ <;> omega
          rw [hz]
          have hz3 : z < texts12.length := hz2
          refine uix_m (f := T.str) (l := texts12) (LstV.o ⟨5, .inl rfl⟩) hz3 ?_
          refine ⟨_, Pu.d, ls ++ [texts12[z]], by rw [List.map_append]; rfl, by rw [List.length_append, hl]; rfl, ⟨fun x hx => ?_, by rw [hF, List.range_succ, List.map_append]; rw [List.map_singleton, hz, Int.toNat_natCast, List.getElem?_eq_getElem hz3]; rfl⟩, rfl⟩
          rcases List.mem_append.mp hx with hx | hx
          · exact hls x hx
          · rw [List.mem_singleton] at hx; subst hx
            exact texts12_names _ (List.getElem_mem hz3)
        · rintro acc δ _ ⟨ls, rfl, hl, hls, rfl⟩ p2
          rw [List.length_map, List.length_range] at hl hls
          exact ⟨us2, rfl, hk us2 ls (hm2.mono (by omega)) hl hls.1 (by rw [hls.2]; exact nod1 hl hc1)⟩
      · rintro δ rfl
        refine es_seqJ (fun δ => ∃ (us3 : OW) (base : Str), Mint (n + 11) us3 ∧ IsName base ∧ δ = [.arg m us3, .d (.int many), .d (.str abc), .d (.int way), .d (.int at_), .no, .d (.str base), .no, .no, .no, .no]) ?_ ?_
        · refine es_asg (ev_join ?_)
          walk_at "e"
          refine ev_lcI (ei_R (ea_cons (ev_op ?_)))
          walk_at "e"
          refine ev_coin ?_
          walk_at "e"
          refine ⟨_, us2, n + 2, 8, rfl, rfl, hm2, by omega, by decide, small (by decide), fun us3 r hm3 hr1 hr2 => ⟨_, Pu.d, ?_⟩⟩
          walk_at "e"
          obtain ⟨r, rfl⟩ := Int.eq_ofNat_of_zero_le hr1
          refine ⟨1 + r, by rw [show ((1 + r : Nat) : Int) = 1 + (r : Int) by omega], by omega, by rw [List.length_map, List.length_range]; omega, fun i acc δ => ∃ (us4 : OW) (ns : List Nat), Mint (n + 3 + i) us4 ∧ acc = (ns.map fun n => (⟨#[n]⟩ : Str)).map T.str ∧ ns.length = i ∧ (∀ x ∈ ns, isLetter x) ∧ δ = [.arg m us4, .d (.int many), .d (.str abc), .d (.int way), .d (.int at_), .no, .no, .no, .no, .no, .no], ⟨us3, [], hm3, rfl, rfl, (fun _ h => nomatch h), rfl⟩, fun _ _ _ _ => trivial, ?_, ?_⟩
          · rintro i t acc δ ht _ ⟨us4, ns, hm4, rfl, hl, hns, rfl⟩
            have hi : i < 1 + r := by
              have := (List.getElem?_eq_some_iff.mp ht).1
              simpa using this
            walk_at "d"
            refine ite2 (fun _ => ?_) (fun h => nomatch h)
            walk_at "d"
            refine ev_coin ?_
            walk_at "d"
            refine ⟨_, us4, n + 3 + i, 26, rfl, rfl, hm4, by omega, by decide, small (by decide), fun us5 r2 hm5 hr3 hr4 => ⟨_, Pu.d, ?_⟩⟩
            obtain ⟨r2, rfl⟩ := Int.eq_ofNat_of_zero_le hr3
            have hr4 : r2 < 26 := by omega
            refine uix_S abc_len (abc_at hr4) ?_
            refine ⟨_, Pu.d, us5, ns ++ [97 + r2], hm5.mono (by omega), by rw [List.map_append, List.map_append]; rfl, by rw [List.length_append, hl]; rfl, fun x hx => ?_, rfl⟩
            rcases List.mem_append.mp hx with hx | hx
            · exact hns x hx
            · rw [List.mem_singleton] at hx; subst hx; exact ⟨by omega, by omega⟩
          · rintro acc δ _ ⟨us4, ns, hm4, rfl, hl, hns, rfl⟩ p1
            rw [List.length_map, List.length_range] at hm4 hl
            refine ⟨_, Pu.fr, ns.map fun n => (⟨#[n]⟩ : Str), LstV.d, ?_, ?_⟩
            · rw [join_letters_len, List.length_map, hl]
              show 1 + r + (1 + r) * 0 ≤ _
              omega
            · refine gt_name all_in ⟨us4, _, hm4.mono (by omega), ?_, rfl⟩
              unfold IsName
              rw [join_letters]
              exact ⟨by omega, by omega, hns⟩
        · rintro δ ⟨us3, base, hm3, hbase, rfl⟩
          have hbl : base.length = base.cps.toList.length := by simp [Str.length]
          have hb1 := hbase.1
          have hb2 := hbase.2.1
          refine es_seq ?_
          refine es_asg (ev_tup (ea_cons (ev_coin ?_)))
          walk_at "e"
          refine ulen_S (by omega) ?_
          walk_at "e"
          refine ⟨_, us3, n + 11, base.length, rfl, rfl, hm3, by omega, by omega, small (by omega), fun us4 spot hm4 hs1 hs2 => ⟨_, Pu.d, ?_⟩⟩
          obtain ⟨spot, rfl⟩ := Int.eq_ofNat_of_zero_le hs1
          have hs2 : spot < base.cps.toList.length := by omega
          walk_at "e"
          refine ⟨([1, 3, 5, 7, 11] : List Int).map T.int, rfl, (show 5 ≤ sizeLine by decide +kernel), fun p1 => ⟨_, Pu.fr, ?_⟩⟩
          refine ev_coin ?_
          walk_at "e"
          refine ⟨_, us4, n + 12, 5, rfl, rfl, hm4, by omega, by decide, small (by decide), fun us5 pa hm5 hp1 hp2 => ⟨_, Pu.d, ?_⟩⟩
          obtain ⟨pa, rfl⟩ := Int.eq_ofNat_of_zero_le hp1
          have hp3 : pa < ([1, 3, 5, 7, 11] : List Int).length := by show pa < 5; omega
          refine uix_m (f := T.int) (l := [1, 3, 5, 7, 11]) LstV.d hp3 ?_
          have hpace : ∃ pace : Nat, ([1, 3, 5, 7, 11] : List Int)[pa] = pace ∧ pace ≤ 11 ∧ (pace = 1 ∨ pace = 3 ∨ pace = 5 ∨ pace = 7 ∨ pace = 11) := by
            have : pa = 0 ∨ pa = 1 ∨ pa = 2 ∨ pa = 3 ∨ pa = 4 := by have : pa < 5 := hp3; omega
            rcases this with h | h | h | h | h <;> subst h
            · exact ⟨1, rfl, by decide, by decide⟩
            · exact ⟨3, rfl, by decide, by decide⟩
            · exact ⟨5, rfl, by decide, by decide⟩
            · exact ⟨7, rfl, by decide, by decide⟩
            · exact ⟨11, rfl, by decide, by decide⟩
          obtain ⟨pace, ep, hpace⟩ := hpace
          rw [ep]
          refine ⟨_, Pu.d, ea_nil ⟨[.int spot, .int pace], rfl, (show 2 ≤ sizeLine by omega), ?_⟩⟩
          walk_at "e"
          refine ev_lcI (ei_R (ea_cons (ev_var (by rfl) ⟨_, Pu.d, ea_nil ?_⟩)))
          refine ⟨many, rfl, by omega, by rw [List.length_map, List.length_range]; omega, fun i acc δ => ∃ ls : List Str, acc = ls.map T.str ∧ ls.length = i ∧ ((∀ x ∈ ls, IsName x) ∧ ls = (List.range i).map (fun k : Nat => cutS base none (some (spot : Int)) ++ ⟨#[97 + (((at_ : Int) + (pace : Int) * (k : Int)) % 26).toNat]⟩ ++ cutS base (some ((spot : Int) + 1)) none)) ∧ δ = [.arg m us5, .d (.int many), .d (.str abc), .d (.int way), .d (.int at_), .no, .d (.str base), .d (.int spot), .d (.int pace), .no, .no], ⟨[], rfl, rfl, ⟨(fun _ h => nomatch h), rfl⟩, rfl⟩, fun _ _ _ _ => trivial, ?_, ?_⟩
          · rintro i t acc δ ht _ ⟨ls, rfl, hl, ⟨hls, hF⟩, rfl⟩
            have hi : i < many := by
              have := (List.getElem?_eq_some_iff.mp ht).1
              simpa using this
            have et : t = .int (i : Nat) := by
              rw [List.getElem?_map, List.getElem?_range hi] at ht
              simpa using ht.symm
            subst et
            walk_at "d"
            refine ite2 (fun _ => ?_) (fun h => nomatch h)
            walk_at "d"
            refine os_S (by omega) ?_
            walk_at "d"
            refine o2_mulI (.inl ⟨by omega, by omega⟩) ?_
            walk_at "d"
            refine o2_mod (by decide) ?_
            walk_at "d"
            obtain ⟨z, hz, hz2⟩ : ∃ z : Nat, ((at_ : Int) + (pace : Int) * (i : Int)) % 26 = z ∧ z < 26 := by
              have h1 := Int.emod_nonneg ((at_ : Int) + (pace : Int) * (i : Int)) (show (26 : Int) ≠ 0 by decide)
              have h2 := Int.emod_lt_of_pos ((at_ : Int) + (pace : Int) * (i : Int)) (show (0 : Int) < 26 by decide)
              exact ⟨(((at_ : Int) + (pace : Int) * (i : Int)) % 26).toNat, by omega, by omega⟩
            rw [hz]
            refine uix_S abc_len (abc_at hz2) ?_
            have c1 : (cutS base none (some (spot : Int))).length ≤ 8 := Nat.le_trans (cut_len _ _ _) (by omega)
            have c2 : (cutS base (some ((spot : Int) + 1)) none).length ≤ 8 := Nat.le_trans (cut_len _ _ _) (by omega)
            refine ⟨_, Pu.d, o2_addS (by show _ + 1 ≤ _; omega) ?_⟩
            walk_at "d"
            refine os_S (by omega) ?_
            refine ⟨_, Pu.d, o2_addS ?_ ?_⟩
            · have : (cutS base none (some (spot : Int)) ++ (⟨#[97 + z]⟩ : Str)).length ≤ 9 := by
                show ((cutS base none (some (spot : Int))).cps ++ #[97 + z]).size ≤ 9
                rw [Array.size_append]
                have : (cutS base none (some (spot : Int))).cps.size ≤ 8 := c1
                simp; omega
              omega
            refine ⟨_, Pu.d, ls ++ [cutS base none (some (spot : Int)) ++ ⟨#[97 + z]⟩ ++ cutS base (some ((spot : Int) + 1)) none], by rw [List.map_append]; rfl, by rw [List.length_append, hl]; rfl, ⟨fun x hx => ?_, by rw [hF, List.range_succ, List.map_append]; rw [List.map_singleton, hz]; rfl⟩, rfl⟩
            rcases List.mem_append.mp hx with hx | hx
            · exact hls x hx
            · rw [List.mem_singleton] at hx; subst hx
              exact bent_name hbase hs2 ⟨by omega, by omega⟩
          · rintro acc δ _ ⟨ls, rfl, hl, hls, rfl⟩ p2
            rw [List.length_map, List.length_range] at hl hls
            exact ⟨us5, rfl, hk us5 ls hm5 hl hls.1 (by rw [hls.2]; exact nod2 hl hc1 hpace.2)⟩
end
end K

namespace K
open PySem L2 DL
local macro_rules | `(tactic| walk_at "dl") => `(tactic| with_reducible first
  | refine es_if ?_ | refine es_append ?_ | refine es_sub ?_ | refine es_par3 ?_ | refine es_parD ?_ | refine es_asg ?_ | refine es_ret ?_ | refine es_retN ?_ | refine es_next ?_ | refine es_drop ?_ | refine es_break ?_ | refine es_cont ?_
  | refine et_val ?_ | refine et_B ?_ | refine et_not ?_ | refine et_and ?_ | refine et_or ?_ | refine et_yes ?_
  | refine ev_op ?_ | refine ev_un ?_ | refine ev_cb ?_ | refine ev_tup ?_ | refine ev_lst ?_ | refine ev_ifx ?_ | refine ev_andV ?_ | refine ev_orV ?_ | refine ev_notV ?_ | refine ev_sl ?_
  | refine ea_cons ?_ | refine ea_nil ?_ | refine ev_int ?_ | refine ev_str ?_ | refine ev_bl ?_ | refine ev_non ?_ | refine eo_none ?_ | refine eo_some ?_
  | refine gts_cons ?_ | refine gts_nil ?_
  | refine o2_addI ?_ | refine o2_ltI ?_ | refine o2_leI ?_ | refine o2_gtI ?_ | refine o2_geI ?_ | refine o2_ltS ?_ | refine o2_leS ?_ | refine o2_gtS ?_ | refine o2_sub ?_
  | refine oa_intI ?_ | refine oa_intB ?_ | refine oa_abs ?_ | refine oa_two ?_ | refine ulen_R ?_ | refine ulen_T ?_ | refine ulen_L LstV.d ?_
  | (refine ⟨_, Pu.d, ?_⟩) | (refine ⟨_, Pu.ptr, ?_⟩) | (refine ⟨_, Pu.fr, ?_⟩))
local macro_rules | `(tactic| walk_at "dv") => `(tactic| first
  | refine ev_var (by rfl) ?_ | refine ev_ptr (.inl (by rfl)) ?_ | refine ev_ptr (.inr (.inl (by rfl))) ?_ | refine ev_ptr (.inr (.inr (by rfl))) ?_
  | refine uix_L (LstV.o ⟨0, .inr (by rfl)⟩) (by rfl) ?_ | refine uix_L LstV.d (by rfl) ?_ | refine uix_T (by rfl) ?_
  | refine gt_tup (by rfl) ?_ | refine gt_name (by first | exact all_in | simp) ?_ | refine ⟨_, rfl, ?_⟩)
local macro_rules | `(tactic| walk_at "e") => `(tactic| repeat (first | walk_at "dl" | walk_at "dv"))
local macro_rules | `(tactic| walk_at "d") => `(tactic| repeat (first | with_reducible refine es_seq ?_ | walk_at "dl" | walk_at "dv"))
section
variable {P : Program} {w : World} {K : PySem.W.Frag} {mg : Str → Option Value} {base : Heap}
/-- a method, or __init__ -/
structure CalM (P : Program) (w : World) (K : PySem.W.Frag) (mg : Str → Option Value) (base : Heap) (k : Nat) (f : Addr) (ps : List Str) (sp : Sp) where
  fd : FuncData
  ok : FnOk P w K mg base CX0 k f fd ps sp
  bd : Binds K fd ps []
abbrev s_law_made_service : Stmt := topS 43
abbrev N_law_made_service : List Str := ["plan", "steps_here"]
theorem sc_law_made_service : FnScope N_law_made_service ["plan"] (defScope s_law_made_service) := ⟨rfl, rfl, rfl, by decide +kernel, rfl, by decide +kernel, by decide +kernel⟩

def SMade (C : Addr) : List T → (RT → Prop) → Prop := fun ts P => ∃ p : Plan, GoodPlan p ∧ p ≠ [] ∧ ts = [ePlan p] ∧ ∀ q, LeastOf p q → P (.d (objS C q))
theorem ok_made {f C fi : Addr} {fd : FuncData} (Fn : Fun K "_law_made_service" "_law_made_service" s_law_made_service f fd) (TX : TXF mg) (MK_Service : Mk K C fi) (MK_Service_mg : mg "Service" = some (.ref C)) (C_Service___init__ : CalM P w K mg base 4 fi ["self", "rooms"] (spM ⟨P, w, K⟩ (SInit C))) : FnOk P w K mg base CX0 6 f fd ["plan"] (spP ⟨P, w, K⟩ (SMade C)) := by
  refine Fn.ok sc_law_made_service (fun vs H Q E h => ?_) (fun cdv A outer s H vs Q E hr h => ?_)
  · obtain ⟨F, ts, _, hd, P, ⟨_, _, _, rfl, _⟩, _⟩ := h
    rw [hd.length]; rfl
  · obtain ⟨F, ts, fh, hd, PP, ⟨p, hg, hp0, rfl, hk⟩, q⟩ := h
    have hu := hr.units
    refine ⟨_, (pss_one (ps_ret (pe_make MK_Service C_Service___init__.ok (hr.mono (by decide)) (by rfl) MK_Service_mg C_Service___init__.bd .nil pass0 (pa_cons (pe_lc (own := [("steps_here", 1)]) (by rfl) sc_law_made_service.nd (pi_listB ⟨P, w, K⟩ rfl (pv 0)) (blkOk_by (N := N_law_made_service) (sc := defScope s_law_made_service) (by decide +kernel)) (fun _ _ _ _ _ => (pg_name (i := 1) sc_law_made_service.nd rfl (Or.inl rfl))) (fun _ _ _ _ _ => pts_nil) (fun _ _ _ _ _ => (pe_callTy (call_listB ⟨P, w, K⟩ rfl) (by rfl) TX.n_list (by decide +kernel) (pa_cons (pv 1) pa_nil)))) pa_nil)))), ?_⟩
    refine run_P (n := 1) fh hd rfl q ?_
    dsimp only [cxOf]
    refine es_ret (ev_make (ea_cons ?_))
    refine ev_lcI (ei_L ?_)
    walk_at "e"
    refine ⟨by rw [List.length_map]; exact Nat.le_of_lt hg.1, fun i acc δ => acc = (p.take i).map eRoom ∧ δ = [.d (ePlan p), .no], ⟨by simp, rfl⟩, fun _ _ _ _ => trivial, ?_, ?_⟩
    · rintro i t acc δ hti _ ⟨rfl, rfl⟩
      rw [List.getElem?_map] at hti
      obtain ⟨r, hr', rfl⟩ := Option.map_eq_some_iff.mp hti
      walk_at "d"
      refine ite2 (fun _ => ?_) (fun h => nomatch h)
      walk_at "d"
      refine oa_list LstV.d fun p1 => ?_
      refine ⟨_, Pu.fr, ?_, rfl⟩
      rw [List.take_add_one, hr']; simp [eRoom]
    · rintro acc δ _ ⟨rfl, rfl⟩ p2
      rw [List.length_map, List.take_length]
      refine ⟨_, Pu.fr, ea_nil ?_⟩
      exact ⟨[ePlan p], rfl, fun dx => ⟨fun o r => r = .d .non ∧ ∃ q, LeastOf p q ∧ o = .ins C dx ["_rooms"] [ePlan q], ⟨dx, p, rfl, hg, hp0, rfl, fun q hq => ⟨rfl, q, hq, rfl⟩⟩, fun o r ⟨e1, q, hq, e2⟩ => ⟨_, _, e2, e1, hk q hq⟩⟩⟩
theorem cut_take {α : Type} (xs : List α) (n : Nat) : cutG xs none (some (n : Int)) = xs.take n := by
  unfold cutG
  rw [HT.sIx_none, HT.sIx_nat, List.drop_zero, Nat.sub_zero]
  by_cases h : n ≤ xs.length
  · rw [Nat.min_eq_left h]
  · rw [Nat.min_eq_right (by omega), List.take_length, List.take_of_length_le (by omega)]
theorem cut_drop {α : Type} (xs : List α) (n : Nat) : cutG xs (some (n : Int)) none = xs.drop n := by
  unfold cutG
  rw [HT.sIx_none, HT.sIx_nat]
  by_cases h : n ≤ xs.length
  · rw [Nat.min_eq_left h]
    exact List.take_of_length_le (by rw [List.length_drop]; omega)
  · rw [Nat.min_eq_right (by omega), List.drop_of_length_le (by omega), List.drop_of_length_le (by omega)]; simp
end
end K

namespace K
open PySem L2 DL PyProof.Rows
/-! ### rows of one behind the other -/
abbrev Lg := List K3 → Bool
/-- the rows of a plan -/
def lang (p : Plan) : Lg := goRow p 0
theorem lang_of {p q : Plan} : Same p 0 q 0 ↔ lang p = lang q := ⟨fun h => funext h, fun h ks => congrFun h ks⟩
theorem lang_nil (p : Plan) : lang p [] = true := rfl
/-! of plans -/
theorem go_way {p : Plan} {i : Nat} (hi : i < p.length) {k : K3} (ks : List K3) : goRow p i (k :: ks) = (match getM (ways p[i]) k with | none => false | some j => goRow p j.toNat ks) := by
  rw [goRow_cons, List.getElem?_eq_getElem hi] <;> rfl
theorem go_one {p : Plan} {i : Nat} (hi : i < p.length) (k : K3) : goRow p i [k] = (getM (ways p[i]) k).isSome := by
  rw [go_way hi]; cases getM (ways p[i]) k <;> rfl
theorem tgt_way {p : Plan} (ht : Tgt p) (hn : NodK p) {i : Nat} (hi : i < p.length) {k : K3} {j : Int} (h : getM (ways p[i]) k = some j) : 0 ≤ j ∧ j < p.length := by
  obtain ⟨s, hs, _, e⟩ := (way_iff (hn _ (List.getElem_mem hi)) k j).mp h
  have := ht _ (List.getElem_mem hi) s hs
  rw [e] at this; exact this
/-! good plans -/
theorem GoodPlan.tgt {p : Plan} (h : GoodPlan p) : Tgt p := fun r hr s hs => ((h.2 r hr).2.1 s hs).2.2.2
end K

namespace K
open PySem L2 DL
end K

namespace K
open PySem L2 DL
local macro_rules | `(tactic| walk_at "dl") => `(tactic| with_reducible first
  | refine es_if ?_ | refine es_append ?_ | refine es_sub ?_ | refine es_par3 ?_ | refine es_parD ?_ | refine es_asg ?_ | refine es_ret ?_ | refine es_retN ?_ | refine es_next ?_ | refine es_drop ?_ | refine es_break ?_ | refine es_cont ?_
  | refine et_val ?_ | refine et_B ?_ | refine et_not ?_ | refine et_and ?_ | refine et_or ?_ | refine et_yes ?_
  | refine ev_op ?_ | refine ev_un ?_ | refine ev_cb ?_ | refine ev_tup ?_ | refine ev_lst ?_ | refine ev_ifx ?_ | refine ev_andV ?_ | refine ev_orV ?_ | refine ev_notV ?_ | refine ev_sl ?_
  | refine ea_cons ?_ | refine ea_nil ?_ | refine ev_int ?_ | refine ev_str ?_ | refine ev_bl ?_ | refine ev_non ?_ | refine eo_none ?_ | refine eo_some ?_
  | refine gts_cons ?_ | refine gts_nil ?_
  | refine o2_addI ?_ | refine o2_ltI ?_ | refine o2_leI ?_ | refine o2_gtI ?_ | refine o2_geI ?_ | refine o2_ltS ?_ | refine o2_leS ?_ | refine o2_gtS ?_ | refine o2_sub ?_
  | refine oa_intI ?_ | refine oa_intB ?_ | refine oa_abs ?_ | refine oa_two ?_ | refine ulen_R ?_ | refine ulen_T ?_ | refine ulen_L LstV.d ?_
  | (refine ⟨_, Pu.d, ?_⟩) | (refine ⟨_, Pu.ptr, ?_⟩) | (refine ⟨_, Pu.fr, ?_⟩))
local macro_rules | `(tactic| walk_at "dv") => `(tactic| first
  | refine ev_var (by rfl) ?_ | refine ev_ptr (.inl (by rfl)) ?_ | refine ev_ptr (.inr (.inl (by rfl))) ?_ | refine ev_ptr (.inr (.inr (by rfl))) ?_
  | refine uix_L (LstV.o ⟨0, .inr (by rfl)⟩) (by rfl) ?_ | refine uix_L LstV.d (by rfl) ?_ | refine uix_T (by rfl) ?_
  | refine gt_tup (by rfl) ?_ | refine gt_name (by first | exact all_in | simp) ?_ | refine ⟨_, rfl, ?_⟩)
local macro_rules | `(tactic| walk_at "e") => `(tactic| repeat (first | walk_at "dl" | walk_at "dv"))
local macro_rules | `(tactic| walk_at "d") => `(tactic| repeat (first | with_reducible refine es_seq ?_ | walk_at "dl" | walk_at "dv"))
section
variable {P : Program} {w : World} {K : PySem.W.Frag} {mg : Str → Option Value} {base : Heap}
abbrev s_Service_rooms : Stmt := inClass (topS 24) 1
abbrev N_Service_rooms : List Str := ["self", "steps"]
theorem sc_Service_rooms : FnScope N_Service_rooms ["self"] (defScope s_Service_rooms) := ⟨rfl, rfl, rfl, by decide +kernel, rfl, by decide +kernel, by decide +kernel⟩

def SRooms (C : Addr) : List T → (RT → Prop) → Prop := fun ts P => ∃ p : Plan, p.length < sizeLine ∧ ts = [objS C p] ∧ P (.new (.lst (p.map eRoom)))
theorem ok_rooms {f C : Addr} {fd : FuncData} (Fn : Fun K "rooms" "Service.rooms" s_Service_rooms f fd) (TX : TXF mg) (hC : Cls K C) (hR : NoAttr K C "_rooms") : FnOk P w K mg base CX0 1 f fd ["self"] (spP ⟨P, w, K⟩ (SRooms C)) := by
  refine Fn.ok sc_Service_rooms (fun vs H Q E h => ?_) (fun cdv A outer s H vs Q E hr h => ?_)
  · obtain ⟨F, ts, _, hd, P, ⟨_, _, rfl, _⟩, _⟩ := h
    rw [hd.length]; rfl
  · obtain ⟨F, ts, fh, hd, PP, ⟨p, hp1, rfl, hk⟩, q⟩ := h
    have hu := hr.units
    refine ⟨_, (pss_one (ps_ret (pe_lc (own := [("steps", 1)]) (by rfl) sc_Service_rooms.nd (pi_listB ⟨P, w, K⟩ rfl (pe_fldB ⟨P, w, K⟩ rfl (pv 0) (by rfl))) (blkOk_by (N := N_Service_rooms) (sc := defScope s_Service_rooms) (by decide +kernel)) (fun _ _ _ _ _ => (pg_name (i := 1) sc_Service_rooms.nd rfl (Or.inl rfl))) (fun _ _ _ _ _ => pts_nil) (fun _ _ _ _ _ => (pe_callTy (call_listB ⟨P, w, K⟩ rfl) (by rfl) TX.n_list (by decide +kernel) (pa_cons (pv 1) pa_nil)))))), ?_⟩
    refine run_P (n := 1) fh hd rfl q ?_
    dsimp only [cxOf]
    refine es_ret ?_
    refine ev_lcI (ei_L ?_)
    refine ev_fld (ns := ["_rooms"]) (us := [ePlan p]) (t := ePlan p) hC hR ?_
    refine ev_var (by rfl) ⟨rfl, rfl, ?_⟩
    refine ⟨_, Pu.d, by rw [List.length_map]; exact Nat.le_of_lt hp1, fun i acc δ => acc = (p.take i).map eRoom ∧ δ = [.d (objS C p), .no], ⟨by simp, rfl⟩, fun _ _ _ _ => trivial, ?_, ?_⟩
    · rintro i t acc δ hti _ ⟨rfl, rfl⟩
      rw [List.getElem?_map] at hti
      obtain ⟨r, hr', rfl⟩ := Option.map_eq_some_iff.mp hti
      walk_at "d"
      refine ite2 (fun _ => ?_) (fun h => nomatch h)
      walk_at "d"
      refine oa_list LstV.d fun p1 => ?_
      refine ⟨_, Pu.fr, ?_, rfl⟩
      rw [List.take_add_one, hr']; simp [eRoom]
    · rintro acc δ _ ⟨rfl, rfl⟩ p1
      rw [List.length_map, List.take_length]
      exact hk
/-- what isinstance asks of an own class -/
structure IsO (K : PySem.W.Frag) (C : Addr) : Prop where
  ha : PySem.W.findIn K (.ref C) "__class__" = some (some (.builtin "object.__class__"))
  hn : PySem.W.specialIn K (.builtin "object.__class__") "__get__" = some (some (.builtin "getset_descriptor.__get__"))
  htk : PySem.W.takesIn K (.builtin "object.__class__") = some true
  hm : PySem.W.mroIn K C (.type "object") = some true
end
end K

namespace K
open PySem L2 DL
end K

namespace K
open PySem L2 DL PyProof.Rows
/-- z are the least rooms with these rows -/
structure Lst (z : Plan) (L : Lg) : Prop where
  good : GoodPlan z
  can : Can z
  red : Red z
  srt : SortK klt z
  eq : lang z = L
theorem IsLeast.lst {p z : Plan} (h : IsLeast p z) : Lst z (lang p) := ⟨h.good, h.can, h.red, h.srt, lang_of.mp h.same⟩
theorem Lst.ne {z : Plan} {L : Lg} (h : Lst z L) : z ≠ [] := h.can.ne
theorem Lst.nil {z : Plan} {L : Lg} (h : Lst z L) : L [] = true := by rw [← h.eq]; exact lang_nil z
end K

namespace K
open PySem L2 DL PyProof.Rows
/-! ### the mirror -/
def flipT (x : Str) : Str := if x = "!" then "?" else if x = "?" then "!" else x
/-! ### the round -/
/-! ### least rooms of these -/
end K

namespace K
open PySem L2 DL
section
variable {P : Program} {w : World} {K : PySem.W.Frag} {mg : Str → Option Value} {base : Heap}
/-- the signs as the top has written them -/
structure MirD (K : PySem.W.Frag) (w : World) (p : Addr) : Prop where
  a : KDct K w p "!" (.str "?")
  b : KDct K w p "?" (.str "!")
theorem MirD.at {p : Addr} (h : MirD K w p) {x : Str} (hx : x = "!" ∨ x = "?") : KDct K w p x (.str (flipT x)) := by
  rcases hx with e | e
  · subst e; exact h.a
  · subst e; exact h.b
end
end K

namespace K
open PySem L2 DL
end K

namespace K
open PySem L2 DL
end K

namespace K
open PySem L2 DL
end K

namespace K
open PySem L2 DL
end K

namespace K
open PySem L2 DL PyProof.Rows
/-! ### a choice of both -/
end K

namespace K
open PySem L2 DL PyProof.Rows
/-! ### the lines of a service, by its rows -/
theorem can_from {q : Plan} (hc : Can q) {k : Nat} (hk : k < q.length) (h0 : 0 < k) : ∃ i, ∃ (hi : i < q.length), i < k ∧ ∃ s ∈ q[i], goalOf s = (k : Int) := by
  have h1 := hc.rc k hk
  have e : (0 : Int) :: fl q = (0 :: fl (q.take k)) ++ fl (q.drop k) := by
    have : fl q = fl (q.take k) ++ fl (q.drop k) := by
      unfold fl
      rw [← List.flatMap_append, List.take_append_drop]
    rw [this]; rfl
  obtain ⟨zs, hz⟩ := dst_app (0 :: fl (q.take k)) (fl (q.drop k))
  rw [← e, hc.eq] at hz
  have hm : (dst (0 :: fl (q.take k)))[k]? = (rangeI q.length)[k]? := by rw [hz, List.getElem?_append_left h1]
  have hr : (rangeI q.length)[k]? = some (k : Int) := by simp [rangeI, hk]
  have hin : (k : Int) ∈ (0 : Int) :: fl (q.take k) := (mem_dst _ _).mp (List.mem_of_getElem? (hm.trans hr))
  rcases List.mem_cons.mp hin with h | h
  · omega
  · have : ∃ r ∈ q.take k, ∃ s ∈ r, goalOf s = (k : Int) := by
      obtain ⟨r, hr, hx⟩ := List.mem_flatMap.mp h
      obtain ⟨s, hs, e⟩ := List.mem_map.mp hx
      exact ⟨r, hr, s, hs, e⟩
    obtain ⟨r, hr, s, hs, e⟩ := this
    obtain ⟨i, hi, ei⟩ := List.mem_iff_getElem.mp hr
    rw [List.length_take] at hi
    rw [List.getElem_take] at ei
    exact ⟨i, by omega, by omega, s, by rw [ei]; exact hs, e⟩
theorem can_row {q : Plan} (hc : Can q) (hn : NodK q) : ∀ (k : Nat), k < q.length → ∃ ks, ∀ ws, goRow q 0 (ks ++ ws) = goRow q k ws := by
  intro k
  induction k using Nat.strongRecOn with
  | _ k ih =>
    intro hk
    by_cases h0 : k = 0
    · subst h0; exact ⟨[], fun _ => rfl⟩
    · obtain ⟨i, hi, hik, s, hs, eg⟩ := can_from hc hk (by omega)
      obtain ⟨ks, h⟩ := ih i hik hi
      refine ⟨ks ++ [kyOf s], fun ws => ?_⟩
      rw [List.append_assoc, h]
      show goRow q i (kyOf s :: ws) = _
      rw [go_way hi, (way_iff (hn _ (List.getElem_mem hi)) (kyOf s) (k : Int)).mpr ⟨s, hs, rfl, eg⟩]
      simp
theorem row_has {p : Plan} (ht : Tgt p) (hn : NodK p) : ∀ (ks : List K3) (k : K3) (i : Nat), i < p.length → goRow p i (ks ++ [k]) = true → ∃ r ∈ p, ∃ s ∈ r, kyOf s = k
  | [], k, i, hi, h => by
    rw [List.nil_append, go_one hi] at h
    obtain ⟨v, hv⟩ := Option.isSome_iff_exists.mp h
    obtain ⟨s, hs, e, _⟩ := (way_iff (hn _ (List.getElem_mem hi)) k v).mp hv
    exact ⟨_, List.getElem_mem hi, s, hs, e⟩
  | k1 :: ks, k, i, hi, h => by
    rw [List.cons_append, go_way hi] at h
    cases e : getM (ways p[i]) k1 with
    | none => rw [e] at h; cases h
    | some j =>
      rw [e] at h
      obtain ⟨h0, h1⟩ := tgt_way ht hn hi e
      exact row_has ht hn ks k j.toNat (by omega) h
/-- the lines of a language -/
def LinL (L : Lg) (x : Str) : Prop := ∃ ks k, L (ks ++ [k]) = true ∧ k.2.1 = x
def linesP (p : Plan) : List Str := (p.map fun r => r.map fun s => s.2.1).flatten
theorem mem_linesP {p : Plan} {x : Str} : x ∈ linesP p ↔ ∃ r ∈ p, ∃ s ∈ r, s.2.1 = x := by
  unfold linesP
  rw [List.mem_flatten]
  constructor
  · rintro ⟨l, hl, hx⟩
    obtain ⟨r, hr, rfl⟩ := List.mem_map.mp hl
    obtain ⟨s, hs, e⟩ := List.mem_map.mp hx
    exact ⟨r, hr, s, hs, e⟩
  · rintro ⟨r, hr, s, hs, e⟩
    exact ⟨_, List.mem_map.mpr ⟨r, hr, rfl⟩, List.mem_map.mpr ⟨s, hs, e⟩⟩
theorem linL_sub {p : Plan} (ht : Tgt p) (hn : NodK p) (h0 : p ≠ []) {x : Str} (h : LinL (lang p) x) : x ∈ linesP p := by
  obtain ⟨ks, k, h1, e⟩ := h
  obtain ⟨r, hr, s, hs, ek⟩ := row_has ht hn ks k 0 (List.length_pos_iff.mpr h0) h1
  exact mem_linesP.mpr ⟨r, hr, s, hs, by rw [← e, ← ek]; rfl⟩
theorem Lst.lines {z : Plan} {L : Lg} (h : Lst z L) (x : Str) : x ∈ linesP z ↔ LinL L x := by
  constructor
  · intro hx
    obtain ⟨r, hr, s, hs, e⟩ := mem_linesP.mp hx
    obtain ⟨i, hi, er⟩ := List.mem_iff_getElem.mp hr
    subst er
    obtain ⟨ks, hk⟩ := can_row h.can h.good.nodk i hi
    refine ⟨ks, kyOf s, ?_, e⟩
    rw [← h.eq]
    show goRow z 0 (ks ++ [kyOf s]) = true
    rw [hk, go_one hi, (way_iff (h.good.nodk _ (List.getElem_mem hi)) (kyOf s) (goalOf s)).mpr ⟨s, hs, rfl, rfl⟩]
    rfl
  · intro hx
    rw [← h.eq] at hx
    exact linL_sub h.good.tgt h.good.nodk h.ne hx
end K

namespace K
open PySem L2 DL
local macro_rules | `(tactic| walk_at "dl") => `(tactic| with_reducible first
  | refine es_if ?_ | refine es_append ?_ | refine es_sub ?_ | refine es_par3 ?_ | refine es_parD ?_ | refine es_asg ?_ | refine es_ret ?_ | refine es_retN ?_ | refine es_next ?_ | refine es_drop ?_ | refine es_break ?_ | refine es_cont ?_
  | refine et_val ?_ | refine et_B ?_ | refine et_not ?_ | refine et_and ?_ | refine et_or ?_ | refine et_yes ?_
  | refine ev_op ?_ | refine ev_un ?_ | refine ev_cb ?_ | refine ev_tup ?_ | refine ev_lst ?_ | refine ev_ifx ?_ | refine ev_andV ?_ | refine ev_orV ?_ | refine ev_notV ?_ | refine ev_sl ?_
  | refine ea_cons ?_ | refine ea_nil ?_ | refine ev_int ?_ | refine ev_str ?_ | refine ev_bl ?_ | refine ev_non ?_ | refine eo_none ?_ | refine eo_some ?_
  | refine gts_cons ?_ | refine gts_nil ?_
  | refine o2_addI ?_ | refine o2_ltI ?_ | refine o2_leI ?_ | refine o2_gtI ?_ | refine o2_geI ?_ | refine o2_ltS ?_ | refine o2_leS ?_ | refine o2_gtS ?_ | refine o2_sub ?_
  | refine oa_intI ?_ | refine oa_intB ?_ | refine oa_abs ?_ | refine oa_two ?_ | refine ulen_R ?_ | refine ulen_T ?_ | refine ulen_L LstV.d ?_
  | (refine ⟨_, Pu.d, ?_⟩) | (refine ⟨_, Pu.ptr, ?_⟩) | (refine ⟨_, Pu.fr, ?_⟩))
local macro_rules | `(tactic| walk_at "dv") => `(tactic| first
  | refine ev_var (by rfl) ?_ | refine ev_ptr (.inl (by rfl)) ?_ | refine ev_ptr (.inr (.inl (by rfl))) ?_ | refine ev_ptr (.inr (.inr (by rfl))) ?_
  | refine uix_L (LstV.o ⟨0, .inr (by rfl)⟩) (by rfl) ?_ | refine uix_L LstV.d (by rfl) ?_ | refine uix_T (by rfl) ?_
  | refine gt_tup (by rfl) ?_ | refine gt_name (by first | exact all_in | simp) ?_ | refine ⟨_, rfl, ?_⟩)
local macro_rules | `(tactic| walk_at "e") => `(tactic| repeat (first | walk_at "dl" | walk_at "dv"))
local macro_rules | `(tactic| walk_at "d") => `(tactic| repeat (first | with_reducible refine es_seq ?_ | walk_at "dl" | walk_at "dv"))
section
variable {P : Program} {w : World} {K : PySem.W.Frag} {mg : Str → Option Value} {base : Heap}
abbrev s_Service_lines : Stmt := inClass (topS 24) 2
abbrev N_Service_lines : List Str := ["self", "steps", "step"]
theorem sc_Service_lines : FnScope N_Service_lines ["self"] (defScope s_Service_lines) := ⟨rfl, rfl, rfl, by decide +kernel, rfl, by decide +kernel, by decide +kernel⟩

def SLines (C : Addr) : List T → (RT → Prop) → Prop := fun ts P => ∃ (p : Plan) (U : List Str), GoodPlan p ∧ U.length < 64 ∧ (∀ x ∈ linesP p, x ∈ U) ∧ ts = [objS C p] ∧ ∀ ys, SrtSet ys (linesP p) → P (.new (.lst (ys.map .str)))
theorem ok_lines {f C : Addr} {fd : FuncData} (Fn : Fun K "lines" "Service.lines" s_Service_lines f fd) (TX : TXF mg) (hC : Cls K C) (hR : NoAttr K C "_rooms") : FnOk P w K mg base CX0 1 f fd ["self"] (spP ⟨P, w, K⟩ (SLines C)) := by
  refine Fn.ok sc_Service_lines (fun vs H Q E h => ?_) (fun cdv A outer s H vs Q E hr h => ?_)
  · obtain ⟨F, ts, _, hd, P, ⟨_, _, _, _, _, rfl, _⟩, _⟩ := h
    rw [hd.length]; rfl
  · obtain ⟨F, ts, fh, hd, PP, ⟨p, U, hgp, hU, hsub, rfl, hk⟩, q⟩ := h
    have hu := hr.units
    refine ⟨_, (pss_one (ps_ret (pe_callB (call_sortedTxB ⟨P, w, K⟩ rfl rfl) (by rfl) TX.n_sorted (by decide +kernel) (pa_cons (scg2 (own := [("steps", 1), ("step", 2)]) (ownj := [2]) (wayTxtB ⟨P, w, K⟩ rfl) (by rfl) sc_Service_lines.nd (pi_listB ⟨P, w, K⟩ rfl (pe_fldB ⟨P, w, K⟩ rfl (pv 0) (by rfl))) (blkOk_by (N := N_Service_lines) (sc := defScope s_Service_lines) (by decide +kernel)) (by decide) (fun _ _ _ _ _ => (pg_name (i := 1) sc_Service_lines.nd rfl (Or.inl rfl))) (fun _ _ _ _ _ => pts_nil) (fun _ _ _ _ _ => (pi_listB ⟨P, w, K⟩ rfl (pv 1))) (fun _ _ _ _ _ => (pg_name (i := 2) sc_Service_lines.nd rfl (Or.inl rfl))) (fun _ _ _ _ _ => pts_nil) (fun _ _ _ _ _ => (pe_ix (ix_B ⟨P, w, K⟩ rfl hu) (pv 2) pe_int (fun _ _ => rfl)))) pa_nil)))), ?_⟩
    refine run_P (n := 2) fh hd rfl q ?_
    dsimp only [cxOf]
    refine es_ret (ev_cb (ea_consK ?_))
    refine ev_sc2 U (show U.length + 1 < 4096 by omega) (ei_L ?_)
    refine ev_fld (ns := ["_rooms"]) (us := [ePlan p]) (t := ePlan p) hC hR ?_
    refine ev_var (by rfl) ⟨rfl, rfl, ?_⟩
    refine ⟨_, Pu.d, fun i xs δ => xs = linesP (p.take i) ∧ δ = [.d (objS C p), .no, .no], ⟨by simp [linesP], rfl⟩, fun _ _ _ _ => trivial, ?_, ?_⟩
    · rintro i t xs δ hti ⟨rfl, rfl⟩
      rw [List.getElem?_map] at hti
      obtain ⟨r, hr', rfl⟩ := Option.map_eq_some_iff.mp hti
      have hrm := List.mem_of_getElem? hr'
      walk_at "d"
      refine ite2 (fun _ => ?_) (fun h => nomatch h)
      refine ej_L ?_
      walk_at "d"
      refine ⟨fun j xs δ => xs = linesP (p.take i) ++ (r.take j).map (fun s => s.2.1) ∧ δ.set 2 .no = [.d (objS C p), .d (eRoom r), .no], ⟨by simp, rfl⟩, fun _ _ _ _ => trivial, ?_, ?_⟩
      · rintro j t xs δ htj ⟨rfl, hδ⟩
        rw [List.getElem?_map] at htj
        obtain ⟨st, hs', rfl⟩ := Option.map_eq_some_iff.mp htj
        have hsm := List.mem_of_getElem? hs'
        have e3 : wd δ [2] = [.d (objS C p), .d (eRoom r), .no] := hδ
        rw [e3]
        refine gt_name (by simp) ?_
        walk_at "d"
        refine ite2 (fun _ => ?_) (fun h => nomatch h)
        walk_at "d"
        refine ⟨hsub _ (mem_linesP.mpr ⟨r, hrm, st, hsm, rfl⟩), ?_, rfl⟩
        rw [List.take_add_one, hs']; simp
      · rintro xs δ ⟨rfl, hδ⟩
        rw [List.length_map, List.take_length]
        refine ⟨?_, ?_⟩
        · rw [List.take_add_one, hr']; simp [linesP]
        · show (δ.set 2 .no).set 1 .no = _
          rw [hδ]; rfl
    · rintro xs ks δ ⟨rfl, rfl⟩ is hu' p1
      rw [List.length_map, List.take_length] at is hu'
      refine ⟨_, _, rfl, ea_nil ?_⟩
      refine oa_sortedTx (Nat.lt_of_le_of_lt (is.len hu') hU) fun ys pm hs p2 => ?_
      exact hk ys (.of is pm hs)
end
end K

namespace K
open PySem L2 DL
/-! ### pairs of rooms that are marked as unlike -/
abbrev PK := Option Int × Option Int
abbrev MK := List (PK × Int)
def has (m : MK) (q : PK) : Prop := (getM m q).isSome = true
def pk (b t : Nat) : PK := (some (b : Int), some (t : Int))
theorem has_put {m : MK} {q q' : PK} {x : Int} : has (putM m q x) q' ↔ has m q' ∨ q' = q := by
  unfold has
  rw [getM_put]
  by_cases h : q = q'
  · subst h; simp
  · rw [if_neg h]
    exact ⟨.inl, fun z => z.elim id fun e => absurd e.symm h⟩
theorem has_iff {m : MK} (h : (m.map (·.1)).Nodup) (q : PK) : has m q ↔ q ∈ m.map (·.1) := by
  unfold has
  rw [Option.isSome_iff_exists, List.mem_map]
  constructor
  · rintro ⟨v, hv⟩; exact ⟨(q, v), (getM_iff h q v).mp hv, rfl⟩
  · rintro ⟨⟨a, v⟩, hm, rfl⟩; exact ⟨v, (getM_iff h a v).mpr hm⟩
/-- marks so far: of rooms that are unlike -/
structure Mks (p : Plan) (m : MK) : Prop where
  nd : (m.map (·.1)).Nodup
  rg : ∀ q, has m q → ∃ b t : Nat, b < p.length ∧ t < p.length ∧ q = pk b t
  ok : ∀ b t : Nat, b < p.length → t < p.length → has m (pk b t) → ¬ Same p b p t
theorem Mks.nil (p : Plan) : Mks p [] := ⟨.nil, fun q h => by simp [has, getM] at h, fun b t _ _ h => by simp [has, getM] at h⟩
theorem Mks.len {p : Plan} {m : MK} (h : Mks p m) : m.length ≤ p.length * p.length := by
  have key := nodup_sub (m := (List.range (p.length * p.length)).map fun i => pk (i / p.length) (i % p.length)) h.nd fun q hq => by
    obtain ⟨b, t, hb, ht, rfl⟩ := h.rg q ((has_iff h.nd q).mpr hq)
    refine List.mem_map.mpr ⟨b * p.length + t, List.mem_range.mpr ?_, ?_⟩
    · have : (b + 1) * p.length ≤ p.length * p.length := Nat.mul_le_mul_right _ hb
      have e : (b + 1) * p.length = b * p.length + p.length := by rw [Nat.add_mul, Nat.one_mul]
      omega
    · have e1 : (b * p.length + t) / p.length = b := by
        rw [Nat.mul_comm, Nat.mul_add_div (by omega), Nat.div_eq_of_lt ht]; rfl
      have e2 : (b * p.length + t) % p.length = t := by
        rw [Nat.mul_comm, Nat.mul_add_mod, Nat.mod_eq_of_lt ht]
      rw [e1, e2]
  rw [List.length_map, List.length_map, List.length_range] at key
  exact key
theorem pk_inj {b t b' t' : Nat} (h : pk b t = pk b' t') : b = b' ∧ t = t' := by
  unfold pk at h
  injection h with h1 h2
  injection h1 with h1
  injection h2 with h2
  exact ⟨by omega, by omega⟩
theorem Mks.put {p : Plan} {m : MK} (h : Mks p m) {b t : Nat} (hb : b < p.length) (ht : t < p.length) (hs : ¬ Same p b p t) (x : Int) : Mks p (putM m (pk b t) x) :=
  ⟨putM_keys h.nd, fun q hq => (has_put.mp hq).elim (h.rg q) fun e => ⟨b, t, hb, ht, e⟩, fun b' t' hb' ht' hq => (has_put.mp hq).elim (h.ok b' t' hb' ht') fun e => by
    obtain ⟨rfl, rfl⟩ := pk_inj e
    exact hs⟩
/-- where two rooms lead by a key -/
def via (p : Plan) (b t : Nat) (k : K3) : PK := (getM (ways (rm p b)) k, getM (ways (rm p t)) k)
/-- a pair is to be marked, by marks m -/
def Need (p : Plan) (m : MK) (b t : Nat) : Prop := keysOf (rm p b) ≠ keysOf (rm p t) ∨ ∃ k ∈ keysOf (rm p b), has m (via p b t k)
/-- a sweep from marks m0, so far to the pairs B -/
structure Swp (p : Plan) (m0 m : MK) (B : Nat → Nat → Prop) : Prop where
  mks : Mks p m
  sub : ∀ q, has m0 q → has m q
  cl : ∀ b t, b < p.length → t < p.length → B b t → Need p m0 b t → has m (pk b t)
theorem Need.mono {p : Plan} {m m' : MK} (h : ∀ q, has m q → has m' q) {b t : Nat} (n : Need p m b t) : Need p m' b t := n.imp id fun ⟨k, h1, h2⟩ => ⟨k, h1, h _ h2⟩
end K

namespace K
open PySem L2 DL
local macro_rules | `(tactic| walk_at "dl") => `(tactic| with_reducible first
  | refine es_if ?_ | refine es_append ?_ | refine es_sub ?_ | refine es_par3 ?_ | refine es_parD ?_ | refine es_asg ?_ | refine es_ret ?_ | refine es_retN ?_ | refine es_next ?_ | refine es_drop ?_ | refine es_break ?_ | refine es_cont ?_
  | refine et_val ?_ | refine et_B ?_ | refine et_not ?_ | refine et_and ?_ | refine et_or ?_ | refine et_yes ?_
  | refine ev_op ?_ | refine ev_un ?_ | refine ev_cb ?_ | refine ev_tup ?_ | refine ev_lst ?_ | refine ev_ifx ?_ | refine ev_andV ?_ | refine ev_orV ?_ | refine ev_notV ?_ | refine ev_sl ?_
  | refine ea_cons ?_ | refine ea_nil ?_ | refine ev_int ?_ | refine ev_str ?_ | refine ev_bl ?_ | refine ev_non ?_ | refine eo_none ?_ | refine eo_some ?_
  | refine gts_cons ?_ | refine gts_nil ?_
  | refine o2_addI ?_ | refine o2_ltI ?_ | refine o2_leI ?_ | refine o2_gtI ?_ | refine o2_geI ?_ | refine o2_ltS ?_ | refine o2_leS ?_ | refine o2_gtS ?_ | refine o2_sub ?_
  | refine oa_intI ?_ | refine oa_intB ?_ | refine oa_abs ?_ | refine oa_two ?_ | refine ulen_R ?_ | refine ulen_T ?_ | refine ulen_L LstV.d ?_
  | (refine ⟨_, Pu.d, ?_⟩) | (refine ⟨_, Pu.ptr, ?_⟩) | (refine ⟨_, Pu.fr, ?_⟩))
local macro_rules | `(tactic| walk_at "dv") => `(tactic| first
  | refine ev_var (by rfl) ?_ | refine ev_ptr (.inl (by rfl)) ?_ | refine ev_ptr (.inr (.inl (by rfl))) ?_ | refine ev_ptr (.inr (.inr (by rfl))) ?_
  | refine uix_L (LstV.o ⟨0, .inr (by rfl)⟩) (by rfl) ?_ | refine uix_L LstV.d (by rfl) ?_ | refine uix_T (by rfl) ?_
  | refine gt_tup (by rfl) ?_ | refine gt_name (by first | exact all_in | simp) ?_ | refine ⟨_, rfl, ?_⟩)
local macro_rules | `(tactic| walk_at "e") => `(tactic| repeat (first | walk_at "dl" | walk_at "dv"))
local macro_rules | `(tactic| walk_at "d") => `(tactic| repeat (first | with_reducible refine es_seq ?_ | walk_at "dl" | walk_at "dv"))
section
variable {P : Program} {w : World} {K : PySem.W.Frag} {mg : Str → Option Value} {base : Heap}
abbrev s_law_keys : Stmt := topS 45
abbrev N_law_keys : List Str := ["steps_here", "step"]
theorem sc_law_keys : FnScope N_law_keys ["steps_here"] (defScope s_law_keys) := ⟨rfl, rfl, rfl, by decide +kernel, rfl, by decide +kernel, by decide +kernel⟩

def SKeys : List T → (RT → Prop) → Prop := fun ts P => ∃ r : Room, r.length < sizeLine ∧ ts = [eRoom r] ∧ P (.new (.lst ((keysOf r).map eK)))
theorem ok_keys {f : Addr} {fd : FuncData} (Fn : Fun K "_law_keys" "_law_keys" s_law_keys f fd) (TX : TXF mg) : FnOk P w K mg base CX0 1 f fd ["steps_here"] (spP ⟨P, w, K⟩ SKeys) := by
  refine Fn.ok sc_law_keys (fun vs H Q E h => ?_) (fun cdv A outer s H vs Q E hr h => ?_)
  · obtain ⟨F, ts, _, hd, P, ⟨_, _, rfl, _⟩, _⟩ := h
    rw [hd.length]; rfl
  · obtain ⟨F, ts, fh, hd, PP, ⟨r, hz, rfl, hk⟩, q⟩ := h
    have hu := hr.units
    have hu66 := units66 hr
    refine ⟨_, (pss_one (ps_ret (pe_callB (call_sortedB ⟨P, w, K⟩ rfl hu66) (by rfl) TX.n_sorted (by decide +kernel) (pa_cons (pe_lc (own := [("step", 1)]) (by rfl) sc_law_keys.nd (pi_listB ⟨P, w, K⟩ rfl (pv 0)) (blkOk_by (N := N_law_keys) (sc := defScope s_law_keys) (by decide +kernel)) (fun _ _ _ _ _ => (pg_name (i := 1) sc_law_keys.nd rfl (Or.inl rfl))) (fun _ _ _ _ _ => pts_nil) (fun _ _ _ _ _ => (pe_slice (sl_B ⟨P, w, K⟩ rfl) (pv 1) po_none (po_some pe_int)))) pa_nil)))), ?_⟩
    refine run_P (n := 1) fh hd rfl q ?_
    dsimp only [cxOf]
    refine es_ret (ev_cb (ea_cons ?_))
    refine ev_lcI (ei_L ?_)
    walk_at "e"
    refine ⟨by rw [List.length_map]; omega, fun i acc δ => acc = ((r.take i).map kyOf).map eK ∧ δ = [.d (eRoom r), .no], ⟨by simp, rfl⟩, fun _ _ _ _ => trivial, ?_, ?_⟩
    · rintro i t acc δ ht _ ⟨rfl, rfl⟩
      rw [List.getElem?_map] at ht
      obtain ⟨st, hst, rfl⟩ := Option.map_eq_some_iff.mp ht
      walk_at "d"
      refine ite2 (fun _ => ?_) (fun h => nomatch h)
      walk_at "d"
      refine os_T (ts := [.str st.1, .str st.2.1, .str st.2.2.1, .int st.2.2.2]) (show ¬ (HT.sIx 4 0 none = 0 ∧ HT.sIx 4 4 (some 3) = 4) by decide) ?_
      refine ⟨eK (kyOf st), Pu.d, ?_, rfl⟩
      rw [List.take_add_one, hst]; simp
    · rintro acc δ _ ⟨rfl, rfl⟩ p2
      rw [List.length_map, List.take_length]
      refine ⟨_, Pu.fr, ea_nil ?_⟩
      refine oa_sorted (e := eK) dK (xs := r.map kyOf) LstV.d eK_py (PySem.W.AllAlike.of fun _ _ => by simp [PySem.W.alike, PySem.W.alikeAll, dK]) (PySem.W.Sortable.tuples fun _ => ⟨_, _, rfl⟩) (fun a => by rw [dK_depth]; decide) fun p1 => ?_
      exact hk
theorem keysOf_len (r : Room) : (keysOf r).length = r.length := by rw [(keysOf_perm r).length_eq, List.length_map]
theorem okK_keys {r : Room} (h : ∀ s ∈ r, okS s) : ∀ k ∈ keysOf r, okK k := fun k hk => by
  obtain ⟨s, hs, rfl⟩ := List.mem_map.mp ((keysOf_perm r).mem_iff.mp hk)
  exact h s hs
end
end K

namespace K
open PySem L2 DL
end K

namespace K
open PySem L2 DL
local macro_rules | `(tactic| walk_at "dl") => `(tactic| with_reducible first
  | refine es_if ?_ | refine es_append ?_ | refine es_sub ?_ | refine es_par3 ?_ | refine es_parD ?_ | refine es_asg ?_ | refine es_ret ?_ | refine es_retN ?_ | refine es_next ?_ | refine es_drop ?_ | refine es_break ?_ | refine es_cont ?_
  | refine et_val ?_ | refine et_B ?_ | refine et_not ?_ | refine et_and ?_ | refine et_or ?_ | refine et_yes ?_
  | refine ev_op ?_ | refine ev_un ?_ | refine ev_cb ?_ | refine ev_tup ?_ | refine ev_lst ?_ | refine ev_ifx ?_ | refine ev_andV ?_ | refine ev_orV ?_ | refine ev_notV ?_ | refine ev_sl ?_
  | refine ea_cons ?_ | refine ea_nil ?_ | refine ev_int ?_ | refine ev_str ?_ | refine ev_bl ?_ | refine ev_non ?_ | refine eo_none ?_ | refine eo_some ?_
  | refine gts_cons ?_ | refine gts_nil ?_
  | refine o2_addI ?_ | refine o2_ltI ?_ | refine o2_leI ?_ | refine o2_gtI ?_ | refine o2_geI ?_ | refine o2_ltS ?_ | refine o2_leS ?_ | refine o2_gtS ?_ | refine o2_sub ?_
  | refine oa_intI ?_ | refine oa_intB ?_ | refine oa_abs ?_ | refine oa_two ?_ | refine ulen_R ?_ | refine ulen_T ?_ | refine ulen_L LstV.d ?_
  | (refine ⟨_, Pu.d, ?_⟩) | (refine ⟨_, Pu.ptr, ?_⟩) | (refine ⟨_, Pu.fr, ?_⟩))
local macro_rules | `(tactic| walk_at "dv") => `(tactic| first
  | refine ev_var (by rfl) ?_ | refine ev_ptr (.inl (by rfl)) ?_ | refine ev_ptr (.inr (.inl (by rfl))) ?_ | refine ev_ptr (.inr (.inr (by rfl))) ?_
  | refine uix_L (LstV.o ⟨0, .inr (by rfl)⟩) (by rfl) ?_ | refine uix_L LstV.d (by rfl) ?_ | refine uix_T (by rfl) ?_
  | refine gt_tup (by rfl) ?_ | refine gt_name (by first | exact all_in | simp) ?_ | refine ⟨_, rfl, ?_⟩)
local macro_rules | `(tactic| walk_at "e") => `(tactic| repeat (first | walk_at "dl" | walk_at "dv"))
local macro_rules | `(tactic| walk_at "d") => `(tactic| repeat (first | with_reducible refine es_seq ?_ | walk_at "dl" | walk_at "dv"))
section
variable {P : Program} {w : World} {K : PySem.W.Frag} {mg : Str → Option Value} {base : Heap}
/-! ### at most one -/
def Sole (xs : List Str) : Prop := ∀ a ∈ xs, ∀ b ∈ xs, a = b
theorem sole_len {ks xs : List Str} (nd : ks.Nodup) (hm : ∀ x, x ∈ ks ↔ x ∈ xs) : ks.length ≤ 1 ↔ Sole xs := by
  constructor
  · intro h a ha b hb
    have ha := (hm a).mpr ha
    have hb := (hm b).mpr hb
    match ks, h, ha, hb with
    | [x], _, ha, hb => rw [List.mem_singleton] at ha hb; rw [ha, hb]
    | [], _, ha, _ => cases ha
  · intro h
    match ks, nd, hm with
    | [], _, _ => simp
    | [x], _, _ => simp
    | x :: y :: zs, nd, hm =>
      have e := h x ((hm x).mp List.mem_cons_self) y ((hm y).mp (List.mem_cons_of_mem _ List.mem_cons_self))
      subst e
      simp at nd
def signsOf (r : Room) : List Str := r.map (·.1)
def PlainP (p : Plan) : Prop := (∀ r ∈ p, Sole (signsOf r)) ∧ Sole (linesP p)
theorem LeastOf.rooms {p q : Plan} (h : LeastOf p q) (hg : GoodPlan p) (h0 : p ≠ []) : ∀ r ∈ q, ∃ r' ∈ p, r.length = r'.length := by
  obtain ⟨gs, re, _, hs, hc, hb, rfl⟩ := h.ex
  intro r hr
  obtain ⟨x, hx, rfl⟩ := List.mem_map.mp hr
  have h0' : ordered p ≠ [] := fun e => h0 (List.map_eq_nil_iff.mp e)
  have hxr := hb.range (ordered_tgt hg) h0' x hx
  obtain ⟨r', hr', hp⟩ := ordered_mem (rm_mem hxr.1 hxr.2)
  exact ⟨r', hr', by rw [List.length_map, hp.length_eq]⟩
abbrev s_is_plain : Stmt := topS 29
abbrev N_is_plain : List Str := ["service", "steps", "step"]
theorem sc_is_plain : FnScope N_is_plain ["service"] (defScope s_is_plain) := ⟨rfl, rfl, rfl, by decide +kernel, rfl, by decide +kernel, by decide +kernel⟩

def SIsPlain (C : Addr) : List T → (RT → Prop) → Prop := fun ts P => ∃ (p : Plan) (U : List Str), GoodPlan p ∧ U.length < 64 ∧ (∀ x ∈ linesP p, x ∈ U) ∧ ts = [objS C p] ∧ ∀ b : Bool, (b = true ↔ PlainP p) → P (.d (.bl b))
theorem ok_is_plain {f C fr fx pr px : Addr} {fd : FuncData} (Fn : Fun K "is_plain" "is_plain" s_is_plain f fd) (TX : TXF mg) (CL_Service : Cls K C)
    (C_Service_rooms : CalM P w K mg base 1 fr ["self"] (spP ⟨P, w, K⟩ (SRooms C))) (PO_Service_rooms : PropOf K C "rooms" pr fr)
    (C_Service_lines : CalM P w K mg base 1 fx ["self"] (spP ⟨P, w, K⟩ (SLines C))) (PO_Service_lines : PropOf K C "lines" px fx) : FnOk P w K mg base CX0 3 f fd ["service"] (spP ⟨P, w, K⟩ (SIsPlain C)) := by
  refine Fn.ok sc_is_plain (fun vs H Q E h => ?_) (fun cdv A outer s H vs Q E hr h => ?_)
  · obtain ⟨F, ts, _, hd, P, ⟨_, _, _, _, _, rfl, _⟩, _⟩ := h
    rw [hd.length]; rfl
  · obtain ⟨F, ts, fh, hd, PP, ⟨p, U, hgp, hU, hsub, rfl, hk⟩, q⟩ := h
    have hu := hr.units
    refine ⟨_, (pss_cons (ps_if (pt_cmpR op_uGt (pe_callB (call_lenB ⟨P, w, K⟩ rfl hu) (by rfl) TX.n_len (by decide +kernel) (pa_cons (pe_prop (pv 0) CL_Service PO_Service_lines C_Service_lines.ok (hr.mono (by decide)) C_Service_lines.bd .nil pass0 (by rfl)) pa_nil)) pe_int (nomark _)) (pss_one (ps_ret pe_bl)) pss_nil)
    (pss_one (ps_ret (pe_callB (call_allB ⟨P, w, K⟩ rfl rfl) (by rfl) TX.n_all (by decide +kernel) (pa_cons (pe_lc (own := [("steps", 1)]) (by rfl) sc_is_plain.nd (pi_listB ⟨P, w, K⟩ rfl (pe_prop (pv 0) CL_Service PO_Service_rooms C_Service_rooms.ok (hr.mono (by decide)) C_Service_rooms.bd .nil pass0 (by rfl))) (blkOk_by (N := N_is_plain) (sc := defScope s_is_plain) (by decide +kernel)) (fun _ _ _ _ _ => (pg_name (i := 1) sc_is_plain.nd rfl (Or.inl rfl))) (fun _ _ _ _ _ => pts_nil) (fun _ _ _ _ _ => (pe_cmpR op_uLe (pe_callB (call_lenTxB ⟨P, w, K⟩ rfl) (by rfl) TX.n_len (by decide +kernel) (pa_cons (scg (own := [("step", 2)]) (wayTxtB ⟨P, w, K⟩ rfl) (by rfl) sc_is_plain.nd (pi_listB ⟨P, w, K⟩ rfl (pv 1)) (blkOk_by (N := N_is_plain) (sc := _) (by rfl)) (fun _ _ _ _ _ => (pg_name (i := 2) sc_is_plain.nd rfl (Or.inl rfl))) (fun _ _ _ _ _ => pts_nil) (fun _ _ _ _ _ => (pe_ix (ix_B ⟨P, w, K⟩ rfl hu) (pv 2) pe_int (fun _ _ => rfl)))) pa_nil)) pe_int (nomark _)))) pa_nil))))), ?_⟩
    refine run_P (n := 2) fh hd rfl q ?_
    dsimp only [cxOf]
    refine es_seq ?_
    refine es_if (et_val (ev_op (ev_cb (ea_cons (ev_propR ?_)))))
    refine ev_var (by rfl) ⟨_, _, rfl, p, U, hgp, hU, hsub, rfl, fun ys hys a => ⟨_, Pu.fr, ea_nil ?_⟩⟩
    refine ulen_L LstV.d ⟨_, Pu.d, ev_int ⟨_, Pu.d, o2_gtI ⟨_, rfl, ?_⟩⟩⟩
    rw [List.length_map]
    have hl := sole_len hys.nd hys.mem
    refine ite2 (fun h => ?_) (fun h => ?_)
    · have h : (1 : Int) < ys.length := of_decide_eq_true h
      refine es_ret (ev_bl (hk false ⟨fun z => (by cases z), fun z => ?_⟩))
      have := hl.mpr z.2
      omega
    · have h : ¬ (1 : Int) < ys.length := fun z => h (decide_eq_true z)
      have hs := hl.mp (by omega)
      refine es_next ?_
      refine es_ret (ev_cb (ea_cons (ev_lcI (ei_L (ev_propR ?_)))))
      refine ev_var (by rfl) ⟨_, _, rfl, p, hgp.1, rfl, fun a => ?_⟩
      refine ⟨_, Pu.fr, by rw [List.length_map]; exact Nat.le_of_lt hgp.1, fun i acc δ => ∃ bs : List Bool, acc = bs.map T.bl ∧ ((∀ b ∈ bs, b = true) ↔ ∀ r ∈ p.take i, Sole (signsOf r)) ∧ δ = [.d (objS C p), .no, .no], ⟨[], rfl, by simp, rfl⟩, fun _ _ _ _ => trivial, ?_, ?_⟩
      · rintro i t acc δ hti _ ⟨bs, rfl, hbs, rfl⟩
        rw [List.getElem?_map] at hti
        obtain ⟨r, hr', rfl⟩ := Option.map_eq_some_iff.mp hti
        have hrm := List.mem_of_getElem? hr'
        walk_at "d"
        refine ite2 (fun _ => ?_) (fun h => nomatch h)
        refine ev_op (ev_cb (ea_consK ?_))
        refine ev_scI ["!", "?"] (by decide) (ei_L ?_)
        walk_at "d"
        refine ⟨fun j xs δ => xs = signsOf (r.take j) ∧ δ = [.d (objS C p), .d (eRoom r), .no], ⟨rfl, rfl⟩, fun _ _ _ _ => trivial, ?_, ?_⟩
        · rintro j t xs δ htj ⟨rfl, rfl⟩
          rw [List.getElem?_map] at htj
          obtain ⟨st, hst, rfl⟩ := Option.map_eq_some_iff.mp htj
          have hsm := List.mem_of_getElem? hst
          walk_at "d"
          refine ite2 (fun _ => ?_) (fun h => nomatch h)
          walk_at "d"
          refine ⟨?_, ?_, rfl⟩
          · rcases ((hgp.2 r hrm).2.1 st hsm).1 with e | e <;> rw [e] <;> simp
          · unfold signsOf; rw [List.take_add_one, hst]; simp
        · rintro xs ks δ ⟨rfl, rfl⟩ is hu' p1
          rw [List.length_map, List.take_length] at is
          refine ⟨_, _, rfl, ea_nil ?_⟩
          refine oa_lenTx ⟨_, Pu.d, ?_⟩
          walk_at "d"
          have hk1 := sole_len is.nd is.mem
          refine ⟨bs ++ [_], by rw [List.map_append]; rfl, ?_, rfl⟩
          have e : p.take (i + 1) = p.take i ++ [r] := by rw [List.take_add_one, hr']; rfl
          rw [e]
          simp only [List.mem_append, List.mem_singleton]
          constructor
          · intro h x hx
            rcases hx with hx | rfl
            · exact hbs.mp (fun b hb => h b (.inl hb)) x hx
            · have := h _ (.inr rfl)
              refine hk1.mp ?_
              have := of_decide_eq_true this
              omega
          · intro h b hb
            rcases hb with hb | rfl
            · exact hbs.mpr (fun x hx => h x (.inl hx)) b hb
            · have := hk1.mpr (h r (.inr rfl))
              exact decide_eq_true (by omega)
      · rintro acc δ _ ⟨bs, rfl, hbs, rfl⟩ p2
        rw [List.length_map, List.take_length] at hbs
        refine ⟨_, Pu.fr, ea_nil ?_⟩
        refine oa_all LstV.d ?_
        refine hk _ ?_
        rw [List.all_eq_true]
        exact ⟨fun h => ⟨hbs.mp fun b hb => h b hb, hs⟩, fun h b hb => hbs.mpr h.1 b hb⟩
end
end K

namespace K
open PySem L2 DL
section
variable {P : Program} {w : World} {K : PySem.W.Frag} {mg : Str → Option Value} {base : Heap}
/-! ### services that are plain, with one line -/
def OneLine (l : Str) (p : Plan) : Prop := ∀ x ∈ linesP p, x = l
theorem srt_one {l : Str} {p : Plan} {ys : List Str} (h : OneLine l p) (hs : SrtSet ys (linesP p)) : ys = [] ∨ ys = [l] := by
  have hm : ∀ y ∈ ys, y = l := fun y hy => h y ((hs.mem y).mp hy)
  have nd := hs.nd
  match ys, hm, nd with
  | [], _, _ => exact .inl rfl
  | [y], hm, _ => rw [hm y List.mem_cons_self]; exact .inr rfl
  | y :: z :: zs, hm, nd =>
    have e1 := hm y List.mem_cons_self
    have e2 := hm z (List.mem_cons_of_mem _ List.mem_cons_self)
    subst e1
    rw [e2] at nd
    simp at nd
abbrev s_check_plain : Stmt := topS 31
abbrev N_check_plain : List Str := ["one", "other", "service"]
theorem sc_check_plain : FnScope N_check_plain ["one", "other"] (defScope s_check_plain) := ⟨rfl, rfl, rfl, by decide +kernel, rfl, by decide +kernel, by decide +kernel⟩

def SCheckPlain (C : Addr) : List T → (RT → Prop) → Prop := fun ts P => ∃ (p q : Plan) (l : Str), IsName l ∧ GoodPlan p ∧ GoodPlan q ∧ PlainP p ∧ PlainP q ∧ OneLine l p ∧ OneLine l q ∧ ts = [objS C p, objS C q] ∧ P (.d .non)
theorem strs_py (xs : List Str) : (T.lst (xs.map .str)).py = some (.list (xs.map PyData.str)) := by
  rw [T.py, pys_map (e := T.str) (d := PyData.str) (fun _ => by simp [T.py])]; rfl
theorem ok_check_plain {f C fx px : Addr} {fd : FuncData} (Fn : Fun K "check_plain" "check_plain" s_check_plain f fd) (TX : TXF mg) (CL_Service : Cls K C)
    (C_is_plain : Cal P w K mg base CX0 "is_plain" 3 ["service"] (spP ⟨P, w, K⟩ (SIsPlain C)))
    (C_Service_lines : CalM P w K mg base 1 fx ["self"] (spP ⟨P, w, K⟩ (SLines C))) (PO_Service_lines : PropOf K C "lines" px fx) : FnOk P w K mg base CX0 4 f fd ["one", "other"] (spP ⟨P, w, K⟩ (SCheckPlain C)) := by
  refine Fn.ok sc_check_plain (fun vs H Q E h => ?_) (fun cdv A outer s H vs Q E hr h => ?_)
  · obtain ⟨F, ts, _, hd, P, ⟨_, _, _, _, _, _, _, _, _, _, rfl, _⟩, _⟩ := h
    rw [hd.length]; rfl
  · obtain ⟨F, ts, fh, hd, PP, ⟨p, q', l, hl, hgp, hgq, hpp, hpq, hop, hoq, rfl, hk⟩, q⟩ := h
    have hu := hr.units
    refine ⟨_, (pss_cons (ps_for PassesOwn.never rfl (pi_tupB ⟨P, w, K⟩ rfl (pe_tup (pa_cons (pv 0) (pa_cons (pv 1) pa_nil)))) (pg_name (i := 2) sc_check_plain.nd rfl (Or.inl rfl)) (pss_one (ps_if (pt_not (pt_val (pe_call C_is_plain.ok (hr.mono (by decide)) (by rfl) C_is_plain.mg C_is_plain.kp C_is_plain.bd .nil pass0 (pa_cons (pv 2) pa_nil)))) (pss_one DL.ps_never) pss_nil)))
    (pss_one (ps_if (PW.pt (pw_and (pt_truth (pe_prop (pv 0) CL_Service PO_Service_lines C_Service_lines.ok (hr.mono (by decide)) C_Service_lines.bd .nil pass0 (by rfl)) (by intro _; rfl)) (pw_and (pt_truth (pe_prop (pv 1) CL_Service PO_Service_lines C_Service_lines.ok (hr.mono (by decide)) C_Service_lines.bd .nil pass0 (by rfl)) (by intro _; rfl)) (pw_and1 (pt_cmpR (op_neB ⟨P, w, K⟩ rfl hu) (pe_prop (pv 0) CL_Service PO_Service_lines C_Service_lines.ok (hr.mono (by decide)) C_Service_lines.bd .nil pass0 (by rfl)) (pe_prop (pv 1) CL_Service PO_Service_lines C_Service_lines.ok (hr.mono (by decide)) C_Service_lines.bd .nil pass0 (by rfl)) (nomark _)))))) (pss_one DL.ps_never) pss_nil))), ?_⟩
    refine run_P (n := 1) fh hd rfl q ?_
    dsimp only [cxOf]
    refine es_seqJ (fun δ => ∃ x2, δ = [.d (objS C p), .d (objS C q'), x2]) ?_ ?_
    · refine es_forI (ei_T (ev_tup (ea_cons (ev_var (by rfl) ⟨_, Pu.d, ea_cons (ev_var (by rfl) ⟨_, Pu.d, ea_nil ?_⟩)⟩))))
      refine ⟨[objS C p, objS C q'], rfl, (show 2 ≤ sizeLine by decide), _, rfl, fun i δ => ∃ x2, δ = [.d (objS C p), .d (objS C q'), x2], ⟨_, rfl⟩, fun _ _ _ => trivial, ?_, fun δ h => h⟩
      rintro i t δ hti ⟨x2, rfl⟩
      obtain ⟨z, rfl, hgz, hpz, hoz⟩ : ∃ z, t = objS C z ∧ GoodPlan z ∧ PlainP z ∧ OneLine l z := by
        match i, hti with
        | 0, h => cases h; exact ⟨p, rfl, hgp, hpp, hop⟩
        | 1, h => cases h; exact ⟨q', rfl, hgq, hpq, hoq⟩
        | i + 2, h => simp at h
      refine gt_name all_in ?_
      refine es_if (et_not (et_val (ev_callPn (ea_cons (ev_var (by rfl) ⟨_, Pu.d, ea_nil ?_⟩)))))
      refine ⟨[objS C z], rfl, z, [l], hgz, (show 1 < 64 by decide), fun x hx => by rw [hoz x hx]; exact List.mem_cons_self, rfl, fun b hb => ⟨_, rfl, ?_⟩⟩
      obtain rfl : b = true := hb.mpr hpz
      refine ite2 (fun h => nomatch h) (fun _ => ?_)
      exact es_next ⟨_, rfl⟩
    · rintro δ ⟨x2, rfl⟩
      have U1 : ∀ {z : Plan}, OneLine l z → ∀ x ∈ linesP z, x ∈ [l] := fun {z} h x hx => by rw [h x hx]; exact List.mem_cons_self
      refine es_if (et_and (et_truth (ev_propR (ev_var (by rfl) ⟨_, _, rfl, p, [l], hgp, (show 1 < 64 by decide), U1 hop, rfl, fun ys hys1 a => ⟨_, Pu.fr, _, .lst LstV.d, ?_⟩⟩))))
      rcases srt_one hop hys1 with rfl | rfl
      · refine ite2 (fun h => nomatch h) (fun _ => ?_)
        refine ite2 (fun h => nomatch h) (fun _ => ?_)
        exact es_next hk
      refine ite2 (fun _ => ?_) (fun h => absurd rfl h)
      refine et_and (et_truth (ev_propR (ev_var (by rfl) ⟨_, _, rfl, q', [l], hgq, (show 1 < 64 by decide), U1 hoq, rfl, fun zs hzs1 b => ⟨_, Pu.fr, _, .lst LstV.d, ?_⟩⟩)))
      rcases srt_one hoq hzs1 with rfl | rfl
      · refine ite2 (fun h => nomatch h) (fun _ => ?_)
        refine ite2 (fun h => nomatch h) (fun _ => ?_)
        exact es_next hk
      refine ite2 (fun _ => ?_) (fun h => absurd rfl h)
      refine et_val (ev_op (ev_propR (ev_var (by rfl) ⟨_, _, rfl, p, [l], hgp, (show 1 < 64 by decide), U1 hop, rfl, fun ys hys a => ⟨_, Pu.fr, ?_⟩⟩)))
      refine ev_propR (ev_var (by rfl) ⟨_, _, rfl, q', [l], hgq, (show 1 < 64 by decide), U1 hoq, rfl, fun zs hzs b => ⟨_, Pu.fr, ?_⟩⟩)
      have hz1 : ∀ {z : Plan} {us : List Str}, OneLine l z → SrtSet us (linesP z) → linesP z ≠ [] → us = [l] := fun {z us} h1 h2 h3 => by
        rcases srt_one h1 h2 with e | e
        · subst e
          obtain ⟨x, hx⟩ := List.exists_mem_of_ne_nil _ h3
          exact absurd ((h2.mem x).mpr hx) (by simp)
        · exact e
      have n1 : linesP p ≠ [] := fun e => by
        have := (hys1.mem l).mp List.mem_cons_self
        rw [e] at this; cases this
      have n2 : linesP q' ≠ [] := fun e => by
        have := (hzs1.mem l).mp List.mem_cons_self
        rw [e] at this; cases this
      obtain rfl := hz1 hop hys n1
      obtain rfl := hz1 hoq hzs n2
      have sh : SeqAt.shaped (.list ([l].map PyData.str)) = true := shaped_of (by rw [PyData.canLay0]; exact all_lay fun x hx => by rw [List.mem_singleton.mp hx, PyData.canLay0]; exact hl.ok) (by rw [PyData.depth]; have := all_depth (d := PyData.str) (n := 0) (xs := [l]) (fun x _ => by simp [PyData.depth]); omega)
      refine o2_ne (strs_py [l]) (strs_py [l]) sh sh (b := true) (by simp [PyData.eqv, PyData.eqvAll]) ⟨_, rfl, ?_⟩
      refine ite2 (fun h => nomatch h) (fun _ => ?_)
      exact es_next hk
/-! ### the pairs of rooms of two services -/
def restP (p1 p2 : Plan) (pq : Duo) : Option (List K3) := if standsB (rm p2 pq.2) (rm p1 pq.1) then none else some []
def waysP (p1 p2 : Plan) (pq : Duo) : List (K3 × Duo) := sharedW (rm p1 pq.1) (rm p2 pq.2)
def Inn (p : Plan) (i : Int) : Prop := 0 ≤ i ∧ i < p.length
abbrev s_parting_talk : Stmt := topS 30
abbrev N_parting_talk : List Str := ["other", "one", "ones", "others", "look"]
theorem sc_parting_talk : FnScope N_parting_talk ["other", "one"] (defScope s_parting_talk) := ⟨rfl, rfl, rfl, by decide +kernel, rfl, by decide +kernel, by decide +kernel⟩

abbrev s_parting_talk_look : Stmt := (defBody (topS 30)).getD 2 (.Pass ⟨0, 0, 0, 0⟩)
abbrev N_parting_talk_look : List Str := ["pair", "ones", "others", "room", "partner"]
theorem sc_parting_talk_look : NdefX.NScope N_parting_talk_look ["pair"] ["ones", "others"] (C8.fnScope s_parting_talk_look) := NdefX.nscope_by (by decide +kernel)

structure PlainG (p : Plan) : Prop where
  g : GoodPlan p
  s : ∀ r ∈ p, Sgn (signR r)
def SLook : List T → List T → (RT → Prop) → Prop := fun tw ts P => ∃ (p1 p2 : Plan) (pq : Duo), PlainG p1 ∧ PlainG p2 ∧ Inn p1 pq.1 ∧ Inn p2 pq.2 ∧ tw = [ePlan p1, ePlan p2] ∧ ts = [duoE.ek pq] ∧ P (.d (.tup [eRest (restP p1 p2 pq), .lst ((waysP p1 p2 pq).map eW)]))
theorem ok_look {qn : Str} {cl : List (Str × Addr)} {d : Addr} (TX : TXF mg)
    (C_stands : Cal P w K mg base CX0 "stands" 3 ["partner", "room"] (spP ⟨P, w, K⟩ SStands)) (C_shared_ways : Cal P w K mg base CX0 "shared_ways" 2 ["room", "partner"] (spP ⟨P, w, K⟩ SShared)) (f : Addr) :
    NdefX.NOk P w K mg base CX0 4 f (NdefX.NF.of s_parting_talk_look "look" qn cl d) ["pair"] ["ones", "others"] (spN ⟨P, w, K⟩ SLook) := by
  refine NdefX.nok_of sc_parting_talk_look (fun doc pm ctv us hl => match us, hl with | [_], _ => rfl) (fun ws vs H Q E h => ?_) (fun A outer s H vs ws Q E hr hf hc hlw h => ?_)
  · obtain ⟨F, vw, tw, ts, _, _, _, hd, P, ⟨_, _, _, _, _, _, _, _, rfl, _⟩, _⟩ := h
    rw [hd.length]; rfl
  · obtain ⟨F, vw, tw, ts, rfl, fh, hw, hd, PP, ⟨p1, p2, pq, g1, g2, i1, i2, rfl, rfl, hk⟩, q⟩ := h
    have hu := hr.units
    refine ⟨_, (pss_cons (ps_par (i := 3) (j := 4) (by rfl) sc_parting_talk_look.nd rfl rfl (by decide) rfl rfl (pa_cons (pe_ix (ix_B ⟨P, w, K⟩ rfl hu) (pv 1) (pe_ix (ix_B ⟨P, w, K⟩ rfl hu) (pv 0) pe_int (fun _ _ => rfl)) (fun _ _ => rfl)) (pa_cons (pe_ix (ix_B ⟨P, w, K⟩ rfl hu) (pv 2) (pe_ix (ix_B ⟨P, w, K⟩ rfl hu) (pv 0) pe_int (fun _ _ => rfl)) (fun _ _ => rfl)) pa_nil)) (by rfl))
    (pss_one (ps_ret (pe_tup (pa_cons (pe_ifExp (pt_val (pe_call C_stands.ok (hr.mono (by decide)) (by rfl) C_stands.mg C_stands.kp C_stands.bd .nil pass0 (pa_cons (pv 4) (pa_cons (pv 3) pa_nil)))) pe_non (pe_lst pa_nil)) (pa_cons (pe_call C_shared_ways.ok (hr.mono (by decide)) (by rfl) C_shared_ways.mg C_shared_ways.kp C_shared_ways.bd .nil pass0 (pa_cons (pv 3) (pa_cons (pv 4) pa_nil))) pa_nil)))))), ?_⟩
    refine run_N (n := 2) fh hw hd rfl q ?_
    have a1 : atI (p1.map eRoom) pq.1 = some (eRoom (rm p1 pq.1)) := rm_at i1.1 i1.2
    have a2 : atI (p2.map eRoom) pq.2 = some (eRoom (rm p2 pq.2)) := rm_at i2.1 i2.2
    have m1 := rm_mem i1.1 i1.2
    have m2 := rm_mem i2.1 i2.2
    have s1 := g1.g.2 _ m1
    have s2 := g2.g.2 _ m2
    refine es_seq ?_
    refine es_parD (ea_cons (ev_op (ev_var (by rfl) ⟨_, Pu.d, ev_op (ev_var (by rfl) ⟨_, Pu.d, ev_int ⟨_, Pu.d, ?_⟩⟩)⟩)))
    refine uix_T (ts := [.int pq.1, .int pq.2]) (t := .int pq.1) (by rfl) ⟨_, Pu.d, uix_L LstV.d a1 ⟨_, Pu.d, ?_⟩⟩
    refine ea_cons (ev_op (ev_var (by rfl) ⟨_, Pu.d, ev_op (ev_var (by rfl) ⟨_, Pu.d, ev_int ⟨_, Pu.d, ?_⟩⟩)⟩))
    refine uix_T (ts := [.int pq.1, .int pq.2]) (t := .int pq.2) (by rfl) ⟨_, Pu.d, uix_L LstV.d a2 ⟨_, Pu.d, ea_nil ⟨_, _, rfl, ?_⟩⟩⟩
    have last : ∀ {δ : List SV} {u : T}, δ[3]? = some (.d (eRoom (rm p1 pq.1))) → δ[4]? = some (.d (eRoom (rm p2 pq.2))) → u = eRest (restP p1 p2 pq) →
        EVA ⟨⟨P, w, K⟩, F, H, none, [], fun _ h => absurd h List.not_mem_nil⟩ (tCons (tCall (spP ⟨P, w, K⟩ SShared) [] E0 (tCons (tVar 3) (tCons (tVar 4) tNil))) tNil) δ fun δ1 rs => ∃ ts, SV.d u :: rs = ts.map .d ∧ ts.length ≤ sizeLine ∧ RTr PP (.d (.tup ts)) := fun {δ u} e3 e4 eu => by
      subst eu
      refine ea_cons (ev_callPn (ea_cons (ev_var e3 ⟨_, Pu.d, ea_cons (ev_var e4 ⟨_, Pu.d, ea_nil ⟨[eRoom (rm p1 pq.1), eRoom (rm p2 pq.2)], rfl, _, _, s1.1, s2.1, s1.2.2, rfl, fun a => ⟨_, Pu.fr, ea_nil ?_⟩⟩⟩)⟩)))
      exact ⟨[eRest (restP p1 p2 pq), .lst ((waysP p1 p2 pq).map eW)], rfl, (show 2 ≤ sizeLine by decide), hk⟩
    refine es_ret (ev_tup (ea_cons (ev_ifx (et_val (ev_callPn (ea_cons (ev_var (by rfl) ⟨_, Pu.d, ea_cons (ev_var (by rfl) ⟨_, Pu.d, ea_nil ?_⟩)⟩)))))))
    refine ⟨[eRoom (rm p2 pq.2), eRoom (rm p1 pq.1)], rfl, _, _, s1.1, s2.1, s1.2.2, s2.2.2, g1.s _ m1, g2.s _ m2, rfl, ⟨_, rfl, ?_⟩⟩
    cases hst : standsB (rm p2 pq.2) (rm p1 pq.1) with
    | true =>
      refine ite2 (fun _ => ?_) (fun h => absurd rfl h)
      exact ev_non ⟨_, Pu.d, last rfl rfl (by unfold restP; rw [hst]; rfl)⟩
    | false =>
      refine ite2 (fun h => nomatch h) (fun _ => ?_)
      exact ev_lst (ea_nil ⟨[], rfl, (show 0 ≤ sizeLine by decide), fun p => ⟨_, Pu.fr, last rfl rfl (by unfold restP; rw [hst]; rfl)⟩⟩)
/-! ### parting_talk -/
theorem rm_mem0 {p : Plan} {i : Int} (h : Inn p i) : rm p i ∈ p := rm_mem h.1 h.2
/-- the pairs that there are -/
def duos (p1 p2 : Plan) : List Duo := (List.range p1.length).flatMap fun (i : Nat) => (List.range p2.length).map fun (j : Nat) => (((i : Nat) : Int), ((j : Nat) : Int))
theorem mem_duos {p1 p2 : Plan} {d : Duo} : d ∈ duos p1 p2 ↔ Inn p1 d.1 ∧ Inn p2 d.2 := by
  unfold duos Inn
  simp only [List.mem_flatMap, List.mem_map, List.mem_range]
  constructor
  · rintro ⟨i, hi, j, hj, rfl⟩
    exact ⟨⟨by show (0 : Int) ≤ i; omega, by show (i : Int) < _; omega⟩, by show (0 : Int) ≤ j; omega, by show (j : Int) < _; omega⟩
  · rintro ⟨⟨h1, h2⟩, h3, h4⟩
    exact ⟨d.1.toNat, by omega, d.2.toNat, by omega, Prod.ext (Int.toNat_of_nonneg h1) (Int.toNat_of_nonneg h3)⟩
theorem duos_len (p1 p2 : Plan) : (duos p1 p2).length = p1.length * p2.length := by
  unfold duos
  rw [List.length_flatMap]
  simp only [List.length_map, List.length_range]
  generalize p1.length = n
  induction n with
  | zero => simp
  | succ n ih => rw [List.range_succ, List.map_append, List.sum_append, ih, Nat.succ_mul]; simp
theorem mem_sharedW {r t : Room} {x : K3 × Duo} (h : x ∈ sharedW r t) : ∃ s ∈ r, x.1 = kyOf s ∧ x.2.1 = goalOf s ∧ getM (ways t) (kyOf s) = some x.2.2 := by
  obtain ⟨s, hs, e⟩ := List.mem_filterMap.mp h
  obtain ⟨j, hj, rfl⟩ := Option.map_eq_some_iff.mp e
  exact ⟨s, hs, rfl, rfl, hj⟩
theorem sharedW_len (r t : Room) : (sharedW r t).length ≤ r.length := List.length_filterMap_le _ _
theorem sharedW_sorted {r t : Room} (h : (r.map kyOf).Pairwise klt) : (sharedW r t).Pairwise fun a b => klt a.1 b.1 := by
  unfold sharedW
  rw [List.pairwise_filterMap]
  rw [List.pairwise_map] at h
  refine h.imp fun {a b} hab x hx y hy => ?_
  obtain ⟨_, _, rfl⟩ := Option.map_eq_some_iff.mp hx
  obtain ⟨_, _, rfl⟩ := Option.map_eq_some_iff.mp hy
  exact hab
/-- what a talk of two services tells: the first row to rooms of which the partner's cannot stand for the other's -/
def Parts (p1 p2 : Plan) : Option (List K3) → Prop := BF.First klt (waysP p1 p2) (fun d => standsB (rm p2 d.2) (rm p1 d.1) = false) (0, 0)
def SParting (C : Addr) : List T → (RT → Prop) → Prop := fun ts P => ∃ (p1 p2 : Plan) (l : Str), IsName l ∧ PlainG p1 ∧ PlainG p2 ∧ PlainP p1 ∧ PlainP p2 ∧ OneLine l p1 ∧ OneLine l p2 ∧ p1 ≠ [] ∧ p2 ≠ [] ∧ p1.length ≤ 300 ∧ p2.length ≤ 300 ∧ SortK klt p1 ∧ ts = [objS C p2, objS C p1] ∧
  ∀ res, Parts p1 p2 res → P (match res with | none => .d .non | some r => .new (.lst (r.map eK)))
theorem ok_parting {f cd tP C fr pr : Addr} {fd : FuncData} (Fn : FunC K "parting_talk" "parting_talk" s_parting_talk f fd cd) (TX : TXF mg) (TB_parting_talk : LamX.TabB base mg cd tP) (NM : nameAt P 154 4 = "parting_talk.<locals>.look") (CL_Service : Cls K C)
    (C_check_plain : Cal P w K mg base CX0 "check_plain" 4 ["one", "other"] (spP ⟨P, w, K⟩ (SCheckPlain C)))
    (C_Service_rooms : CalM P w K mg base 1 fr ["self"] (spP ⟨P, w, K⟩ (SRooms C))) (PO_Service_rooms : PropOf K C "rooms" pr fr)
    (C_stands : Cal P w K mg base CX0 "stands" 3 ["partner", "room"] (spP ⟨P, w, K⟩ SStands)) (C_shared_ways : Cal P w K mg base CX0 "shared_ways" 2 ["room", "partner"] (spP ⟨P, w, K⟩ SShared))
    (C_first_row : CalF P w K mg base "first_row" 5 ["look"] (spF P w K mg base 4 SFirstRow)) : FnOk P w K mg base CX0 6 f fd ["other", "one"] (spT ⟨P, w, K⟩ [tP] (SParting C)) := by
  refine Fn.go sc_parting_talk (fun vs H Q E h => ?_) (fun A outer s H vs Q E hr h => ?_)
  · obtain ⟨F, ts, _, hd, _, P, ⟨_, _, _, _, _, _, _, _, _, _, _, _, _, _, _, rfl, _⟩, _⟩ := h
    rw [hd.length]; rfl
  · obtain ⟨F, ts, fh, hd, hT, PP, ⟨p1, p2, l, hl, g1, g2, pl1, pl2, o1, o2, n1, n2, z1, z2, so, rfl, hk⟩, q⟩ := h
    have hu := hr.units
    have hz : (200000 : Nat) < sizeLine := by decide +kernel
    refine ⟨_, (pss_cons (ps_expr (pe_call C_check_plain.ok (hr.mono (by decide)) (by rfl) C_check_plain.mg C_check_plain.kp C_check_plain.bd .nil pass0 (pa_cons (pv 1) (pa_cons (pv 0) pa_nil))))
    (pss_cons (ps_asg (pe_tup (pa_cons (pe_prop (pv 1) CL_Service PO_Service_rooms C_Service_rooms.ok (hr.mono (by decide)) C_Service_rooms.bd .nil pass0 (by rfl)) (pa_cons (pe_prop (pv 0) CL_Service PO_Service_rooms C_Service_rooms.ok (hr.mono (by decide)) C_Service_rooms.bd .nil pass0 (by rfl)) pa_nil))) (pg_tupB ⟨P, w, K⟩ rfl 2 rfl (pgs_cons (pg_name (i := 2) sc_parting_talk.nd rfl (Or.inr rfl)) (pgs_cons (pg_name (i := 3) sc_parting_talk.nd rfl (Or.inr rfl)) pgs_nil))))
    (pss_cons (ps_ndefES (st := s_parting_talk_look) (i := 4) (by rfl) TB_parting_talk (by rfl) (NdefX.ndef_free (sc := defScope s_parting_talk) (nsc := C8.fnScope s_parting_talk_look) (fr := ["ones", "others"]) (by decide +kernel)) (by rfl) (by rfl) (by rfl) sc_parting_talk.nd (by rfl) (Or.inl rfl) (Or.inl rfl))
    (pss_one (ps_ret (pe_callF (fr := ["ones", "others"]) (js := [2, 3]) C_first_row.ok (fun ok => NdefX.Caps.made (scope := C8.fnScope s_parting_talk_look) ok (NdefX.ndef_free (sc := defScope s_parting_talk) (nsc := C8.fnScope s_parting_talk_look) (fr := ["ones", "others"]) (by decide +kernel)) (NdefX.ndef_fr (sc := defScope s_parting_talk) (nsc := C8.fnScope s_parting_talk_look) (by decide +kernel)) (by rfl)) (fun _ => rfl) (hr.mono (by decide)) (by rfl) C_first_row.mg C_first_row.kp C_first_row.bd (pa_cons (pv 4) pa_nil))))))), ?_⟩
    refine run_T (n := 3) fh hd hT rfl q ?_
    refine es_seq ?_
    refine es_drop (ev_callPn (ea_cons (ev_var (by rfl) ⟨_, Pu.d, ea_cons (ev_var (by rfl) ⟨_, Pu.d, ea_nil ?_⟩)⟩)))
    refine ⟨[objS C p1, objS C p2], rfl, p1, p2, l, hl, g1.g, g2.g, pl1, pl2, o1, o2, rfl, ?_⟩
    refine es_seq ?_
    refine es_asg (ev_tup (ea_cons (ev_propR (ev_var (by rfl) ⟨_, _, rfl, p1, by omega, rfl, fun a1 => ⟨_, Pu.fr, ?_⟩⟩))))
    refine ea_cons (ev_propR (ev_var (by rfl) ⟨_, _, rfl, p2, by omega, rfl, fun a2 => ⟨_, Pu.fr, ea_nil ?_⟩⟩))
    refine ⟨[ePlan p1, ePlan p2], rfl, (show 2 ≤ sizeLine by omega), ?_⟩
    refine gt_tup rfl (gts_cons (gt_name all_in (gts_cons (gt_name all_in (gts_nil ?_)))))
    refine es_seq ?_
    refine es_ndef List.mem_cons_self (fun d => rfl) (fun d => NM.symm) fun d => ?_
    refine es_ret (ev_callF (ea_cons (ev_var (by rfl) ⟨_, Pu.d, ea_nil ?_⟩)))
    let X := (cxOf CX0 P w K mg base N_parting_talk "parting_talk" (defScope s_parting_talk) f (.ref cd) A outer s H E).nox
    let nf := NdefX.NF.of s_parting_talk_look "look" (X.env.qual ++ "look") (cloFrom X.env.cells (C8.fnScope s_parting_talk_look).names []) d
    refine ⟨[.fn nf], [ePlan p1, ePlan p2], nf, ["pair"], SLook, rfl, rfl, fun i => ?_, rfl, fun f => ok_look TX C_stands C_shared_ways f, ?_⟩
    · match i with
      | 0 => rfl
      | 1 => rfl
      | i + 2 => simp
    have l1 : 0 < p1.length := List.length_pos_iff.mpr n1
    have l2 : 0 < p2.length := List.length_pos_iff.mpr n2
    have h300 : p1.length * p2.length ≤ 300 * 300 := Nat.mul_le_mul z1 z2
    have iso : ∀ d, (restP p1 p2 d).isSome = true ↔ standsB (rm p2 d.2) (rm p1 d.1) = false := fun d => by
      unfold restP
      cases standsB (rm p2 d.2) (rm p1 d.1) <;> simp
    refine ⟨duos p1 p2, restP p1 p2, waysP p1 p2, rfl, mem_duos.mpr ⟨⟨Int.le_refl 0, by show (0 : Int) < _; omega⟩, Int.le_refl 0, by show (0 : Int) < _; omega⟩, by rw [duos_len]; omega, fun d hd => ?_, fun r d rs hr hrs hmin => ?_, fun hno => ?_⟩
    · obtain ⟨i1, i2⟩ := mem_duos.mp hd
      have m1 := rm_mem0 i1
      have m2 := rm_mem0 i2
      have s1 := g1.g.2 _ m1
      have s2 := g2.g.2 _ m2
      refine ⟨fun r hr => ?_, ?_, sharedW_sorted (so _ m1), fun kq hkq => ?_, fun P hP => ⟨p1, p2, d, g1, g2, i1, i2, rfl, rfl, hP⟩⟩
      · unfold restP at hr
        split at hr
        · cases hr
        · cases hr; exact Nat.zero_le _
      · exact Nat.lt_of_le_of_lt (sharedW_len _ _) s1.1
      · obtain ⟨st, hs, e1, e2, e3⟩ := mem_sharedW hkq
        obtain ⟨st2, hs2, e4⟩ := ways_goal e3
        have t1 := s1.2.1 st hs
        have t2 := s2.2.1 st2 hs2
        refine mem_duos.mpr ⟨?_, ?_⟩
        · rw [e2]; exact ⟨t1.2.2.2.1, t1.2.2.2.2⟩
        · rw [e4]; exact ⟨t2.2.2.2.1, t2.2.2.2.2⟩
    · have hrs0 : rs = [] := by
        unfold restP at hrs
        split at hrs
        · cases hrs
        · cases hrs; rfl
      subst hrs0
      have hb := (iso d).mp (by rw [hrs]; rfl)
      have := hk (some r) ⟨⟨d, hr, hb⟩, fun r' q' h1 h2 => hmin r' q' h1 ((iso q').mpr h2)⟩
      rw [List.append_nil]
      exact fun a => this
    · exact hk none fun r q' h1 h2 => hno r q' h1 ((iso q').mpr h2)
end
end K

namespace K
open PySem L2 DL
local macro_rules | `(tactic| walk_at "dl") => `(tactic| with_reducible first
  | refine es_if ?_ | refine es_append ?_ | refine es_sub ?_ | refine es_par3 ?_ | refine es_parD ?_ | refine es_asg ?_ | refine es_ret ?_ | refine es_retN ?_ | refine es_next ?_ | refine es_drop ?_ | refine es_break ?_ | refine es_cont ?_
  | refine et_val ?_ | refine et_B ?_ | refine et_not ?_ | refine et_and ?_ | refine et_or ?_ | refine et_yes ?_
  | refine ev_op ?_ | refine ev_un ?_ | refine ev_cb ?_ | refine ev_tup ?_ | refine ev_lst ?_ | refine ev_ifx ?_ | refine ev_andV ?_ | refine ev_orV ?_ | refine ev_notV ?_ | refine ev_sl ?_
  | refine ea_cons ?_ | refine ea_nil ?_ | refine ev_int ?_ | refine ev_str ?_ | refine ev_bl ?_ | refine ev_non ?_ | refine eo_none ?_ | refine eo_some ?_
  | refine gts_cons ?_ | refine gts_nil ?_
  | refine o2_addI ?_ | refine o2_ltI ?_ | refine o2_leI ?_ | refine o2_gtI ?_ | refine o2_geI ?_ | refine o2_ltS ?_ | refine o2_leS ?_ | refine o2_gtS ?_ | refine o2_sub ?_
  | refine oa_intI ?_ | refine oa_intB ?_ | refine oa_abs ?_ | refine oa_two ?_ | refine ulen_R ?_ | refine ulen_T ?_ | refine ulen_L LstV.d ?_
  | (refine ⟨_, Pu.d, ?_⟩) | (refine ⟨_, Pu.ptr, ?_⟩) | (refine ⟨_, Pu.fr, ?_⟩))
local macro_rules | `(tactic| walk_at "dv") => `(tactic| first
  | refine ev_var (by rfl) ?_ | refine ev_ptr (.inl (by rfl)) ?_ | refine ev_ptr (.inr (.inl (by rfl))) ?_ | refine ev_ptr (.inr (.inr (by rfl))) ?_
  | refine uix_L (LstV.o ⟨0, .inr (by rfl)⟩) (by rfl) ?_ | refine uix_L LstV.d (by rfl) ?_ | refine uix_T (by rfl) ?_
  | refine gt_tup (by rfl) ?_ | refine gt_name (by first | exact all_in | simp) ?_ | refine ⟨_, rfl, ?_⟩)
local macro_rules | `(tactic| walk_at "e") => `(tactic| repeat (first | walk_at "dl" | walk_at "dv"))
local macro_rules | `(tactic| walk_at "d") => `(tactic| repeat (first | with_reducible refine es_seq ?_ | walk_at "dl" | walk_at "dv"))
section
def eSs4 (r : DL.Room) : List T := r.map eS
theorem rooms_lst4 (p : Plan) : (p.map eSs4).map T.lst = p.map eRoom := by rw [List.map_map]; rfl
theorem ownNs_set4 {bs : List Addr} {p : Plan} {k : Nat} {n : NI} {r : DL.Room} (h : bs.length = p.length) (hn : n.tr = .lst (r.map eS)) : ((ownNs bs (p.map eSs4)).set k n).map NI.tr = (p.set k r).map eRoom := by
  rw [List.map_set, ownNs_tr (by rw [List.length_map]; exact h), rooms_lst4, List.map_set, hn]; rfl
/-- rooms of a service, small -/
structure Sml (O : Prop) (R : Nat) (lines words : List Str) (p : Plan) : Prop where
  g : GoodPlan p
  n : p ≠ []
  l : p.length ≤ 100
  r : ∀ r ∈ p, r.length ≤ R
  s : ∀ r ∈ p, ∀ s ∈ r, s.2.1 ∈ lines ∧ s.2.2.1 ∈ words
  o : O → ∀ r ∈ p, ∀ s ∈ r, ∀ t ∈ r, s.1 = t.1
theorem one_snoc {r : DL.Room} {s : Stp} (h : ∀ a ∈ r, ∀ b ∈ r, a.1 = b.1) (hs : ∀ a ∈ r, a.1 = s.1) : ∀ a ∈ r ++ [s], ∀ b ∈ r ++ [s], a.1 = b.1 := fun a ha b hb => by
  rcases List.mem_append.mp ha with ha | ha
  · rcases List.mem_append.mp hb with hb | hb
    · exact h a ha b hb
    · rw [List.mem_singleton.mp hb]; exact hs a ha
  · rw [List.mem_singleton.mp ha]
    rcases List.mem_append.mp hb with hb | hb
    · exact (hs b hb).symm
    · rw [List.mem_singleton.mp hb]
theorem Sml.mono {O : Prop} {R R' : Nat} {L W : List Str} {p : Plan} (h : Sml O R L W p) (hr : R ≤ R') : Sml O R' L W p := ⟨h.g, h.n, h.l, fun r hr' => Nat.le_trans (h.r r hr') hr, h.s, h.o⟩
theorem Sml.set {O : Prop} {R R' k : Nat} {L W : List Str} {p : Plan} {r : DL.Room} (h : Sml O R L W p) (hr : R ≤ R') (hR : R' ≤ 200) (h1 : r.length ≤ R') (h2 : ∀ s ∈ r, GoodStep p.length s ∧ s.2.1 ∈ L ∧ s.2.2.1 ∈ W) (h3 : (r.map kyOf).Nodup) (h4 : O → ∀ s ∈ r, ∀ t ∈ r, s.1 = t.1) : Sml O R' L W (p.set k r) := by
  have hz : (1000 : Nat) < sizeLine := by decide +kernel
  refine ⟨⟨by rw [List.length_set]; exact h.g.1, fun x hx => ?_⟩, fun e => h.n ?_, by rw [List.length_set]; exact h.l, fun x hx => ?_, fun x hx => ?_, fun o x hx => ?_⟩
  · rw [List.length_set]
    rcases List.mem_or_eq_of_mem_set hx with hx | rfl
    · exact h.g.2 x hx
    · exact ⟨by omega, fun s hs => (h2 s hs).1, h3⟩
  · have := congrArg List.length e
    rw [List.length_set] at this
    exact List.length_eq_zero_iff.mp this
  · rcases List.mem_or_eq_of_mem_set hx with hx | rfl
    · exact Nat.le_trans (h.r x hx) hr
    · exact h1
  · rcases List.mem_or_eq_of_mem_set hx with hx | rfl
    · exact h.s x hx
    · exact fun s hs => (h2 s hs).2
  · rcases List.mem_or_eq_of_mem_set hx with hx | rfl
    · exact h.o o x hx
    · exact h4 o
theorem dK_shaped4 {k : K3} (h : okK k) : SeqAt.shaped (dK k) = true := shaped_of (dK_lay h) (by rw [dK_depth]; decide)
/-- [1 for step in steps if step[:3] == key] -/
def onesOf (r : DL.Room) (k : K3) : List Nat := (r.filter fun s => decide (kyOf s = k)).map fun _ => 1
theorem onesOf_nil {r : DL.Room} {k : K3} : onesOf r k = [] ↔ k ∉ r.map kyOf := by
  unfold onesOf
  rw [List.map_eq_nil_iff, List.filter_eq_nil_iff, List.mem_map]
  constructor
  · rintro h ⟨s, hs, e⟩
    exact h s hs (decide_eq_true e)
  · intro h s hs e
    exact h ⟨s, hs, of_decide_eq_true e⟩
theorem ints4_py (xs : List Nat) : (T.lst (xs.map fun k => T.int (k : Nat))).py = some (.list (xs.map fun k => PyData.int (k : Nat))) := by
  rw [T.py, pys_map (e := fun k : Nat => T.int (k : Nat)) (d := fun k : Nat => PyData.int (k : Nat)) (fun _ => rfl)]; rfl
theorem ints4_shaped (xs : List Nat) : SeqAt.shaped (.list (xs.map fun k => PyData.int (k : Nat))) = true := by
  refine shaped_of ?_ ?_
  · rw [PyData.canLay0]; exact all_lay fun x _ => by simp [PyData.canLay0]
  · rw [PyData.depth]
    have := all_depth (d := fun k : Nat => PyData.int (k : Nat)) (n := 0) (xs := xs) fun x _ => by simp [PyData.depth]
    omega
theorem ints4_eqv (xs ys : List Nat) : PyData.eqv (.list (xs.map fun k => PyData.int (k : Nat))) (.list (ys.map fun k => PyData.int (k : Nat))) = decide (xs = ys) := by
  rw [PyData.eqv]; exact eqvAll_map (fun a b => by
    have e : PyData.eqv (.int (a : Int)) (.int (b : Int)) = ((a : Int) == (b : Int)) := by simp only [PyData.eqv]
    rw [e, Bool.eq_iff_iff, beq_iff_eq, decide_eq_true_eq]; omega) xs ys
theorem eRoom_shaped4 {r : Room} (h : ∀ s ∈ r, okS s) : SeqAt.shaped (dRoom r) = true := shaped_of (dRoom_lay h) (Nat.le_trans (dRoom_depth r) (by decide))
end
section
variable {P : Program} {w : World} {K : PySem.W.Frag} {mg : Str → Option Value} {base : Heap}
abbrev s_law_bent_plan : Stmt := topS 41
abbrev N_law_bent_plan : List Str := ["mint", "plan", "lines_here", "words_here", "found", "at", "way", "sign", "line", "word", "rank", "goal", "rest", "fresh", "steps_here", "step"]
theorem sc_law_bent_plan : FnScope N_law_bent_plan ["mint", "plan", "lines_here", "words_here"] (defScope s_law_bent_plan) := ⟨rfl, rfl, rfl, by decide +kernel, rfl, by decide +kernel, by decide +kernel⟩

def SBent : OW → List T → (OW → RT → Prop) → Prop := fun us ts P => ∃ (O : Prop) (n R : Nat) (p : Plan) (lines words : List Str), n + 100 < 100000 ∧ Mint n us ∧ R ≤ 100 ∧ Sml O R lines words p ∧ lines ≠ [] ∧ words ≠ [] ∧ lines.length ≤ 100 ∧ words.length ≤ 100 ∧ (∀ x ∈ lines, IsName x) ∧ (∀ x ∈ words, IsName x) ∧
  ts = [ePlan p, .lst (lines.map .str), .lst (words.map .str)] ∧ ∀ us' q, Mint (n + 10) us' → q.length = p.length → Sml O (R + 1) lines words q → P us' (.new (.lst (q.map eRoom)))
theorem ok_bent {f : Addr} {fd : FuncData} (Fn : Fun K "_law_bent_plan" "_law_bent_plan" s_law_bent_plan f fd) (TX : TXF mg)
    (C_law_coin : Cal P w K mg base CX0 "_law_coin" 1 ["mint", "many"] (spM ⟨P, w, K⟩ SCoin)) : FnOk P w K mg base CX0 2 f fd ["mint", "plan", "lines_here", "words_here"] (spM ⟨P, w, K⟩ SBent) := by
  refine Fn.ok sc_law_bent_plan (fun vs H Q E h => ?_) (fun cdv A outer s H vs Q E hr h => ?_)
  · obtain ⟨F, m, ws, us, ts, rfl, _, _, _, hd, P, ⟨_, _, _, _, _, _, _, _, _, _, _, _, _, _, _, _, rfl, _⟩, _⟩ := h
    rw [List.length_cons, hd.length]; rfl
  · obtain ⟨F, m, ws, us, ts, rfl, fh, fm, hm, hd, PP, ⟨O, n0, R, p, lines, words, hn0, hmint, hR, hp, hl0, hw0, hl1, hw1, hln, hwn, rfl, hk⟩, q⟩ := h
    have hu := hr.units
    have hz9 : (10000 : Nat) < sizeLine := by decide +kernel
    have hpl := hp.l
    have hp0 := List.length_pos_iff.mpr hp.n
    have hlp := List.length_pos_iff.mpr hl0
    have hwp := List.length_pos_iff.mpr hw0
    refine ⟨_, (pss_cons (ps_par3 (i := 4) (j := 5) (l := 6) (by rfl) sc_law_bent_plan.nd rfl rfl rfl (by decide) (by decide) (by decide) rfl rfl rfl (pa_cons (pe_lc (own := [("steps_here", 14)]) (by rfl) sc_law_bent_plan.nd (pi_listB ⟨P, w, K⟩ rfl (pv 1)) (blkOk_by (N := N_law_bent_plan) (sc := defScope s_law_bent_plan) (by decide +kernel)) (fun _ _ _ _ _ => (pg_name (i := 14) sc_law_bent_plan.nd rfl (Or.inl rfl))) (fun _ _ _ _ _ => pts_nil) (fun _ _ _ _ _ => (pe_callTy (call_listB ⟨P, w, K⟩ rfl) (by rfl) TX.n_list (by decide +kernel) (pa_cons (pv 14) pa_nil)))) (pa_cons (pe_call C_law_coin.ok (hr.mono (by decide)) (by rfl) C_law_coin.mg C_law_coin.kp C_law_coin.bd .nil pass0 (pa_cons (pv 0) (pa_cons (pe_callB (call_lenB ⟨P, w, K⟩ rfl hu) (by rfl) TX.n_len (by decide +kernel) (pa_cons (pv 1) pa_nil)) pa_nil))) (pa_cons (pe_call C_law_coin.ok (hr.mono (by decide)) (by rfl) C_law_coin.mg C_law_coin.kp C_law_coin.bd .nil pass0 (pa_cons (pv 0) (pa_cons pe_int pa_nil))) pa_nil))) (by rfl))
    (pss_cons (ps_if (PW.pt (pw_or (pt_cmpR (op_eqB ⟨P, w, K⟩ rfl hu) (pv 6) pe_int (nomark _)) (pw_or1 (pt_cmpR (op_eqB ⟨P, w, K⟩ rfl hu) (pe_ix (ix_B ⟨P, w, K⟩ rfl hu) (pv 4) (pv 5) (fun _ _ => rfl)) (pe_lst pa_nil) (nomark _))))) (pss_cons (ps_set (i := 7) sc_law_bent_plan.nd rfl (Or.inr rfl) (pe_ifExp (pt_cmpR (op_neB ⟨P, w, K⟩ rfl hu) (pe_ix (ix_B ⟨P, w, K⟩ rfl hu) (pv 4) (pv 5) (fun _ _ => rfl)) (pe_lst pa_nil) (nomark _)) (pe_ix (ix_B ⟨P, w, K⟩ rfl hu) (pe_ix (ix_B ⟨P, w, K⟩ rfl hu) (pe_ix (ix_B ⟨P, w, K⟩ rfl hu) (pv 4) (pv 5) (fun _ _ => rfl)) pe_int (fun _ _ => rfl)) pe_int (fun _ _ => rfl)) (pe_ix (ix_B ⟨P, w, K⟩ rfl hu) (pe_lst (pa_cons pe_str (pa_cons pe_str pa_nil))) (pe_call C_law_coin.ok (hr.mono (by decide)) (by rfl) C_law_coin.mg C_law_coin.kp C_law_coin.bd .nil pass0 (pa_cons (pv 0) (pa_cons pe_int pa_nil))) (fun _ _ => rfl))))
    (pss_cons (ps_asg (pe_tup (pa_cons (pe_ix (ix_B ⟨P, w, K⟩ rfl hu) (pv 2) (pe_call C_law_coin.ok (hr.mono (by decide)) (by rfl) C_law_coin.mg C_law_coin.kp C_law_coin.bd .nil pass0 (pa_cons (pv 0) (pa_cons (pe_callB (call_lenB ⟨P, w, K⟩ rfl hu) (by rfl) TX.n_len (by decide +kernel) (pa_cons (pv 2) pa_nil)) pa_nil))) (fun _ _ => rfl)) (pa_cons (pe_ix (ix_B ⟨P, w, K⟩ rfl hu) (pv 3) (pe_call C_law_coin.ok (hr.mono (by decide)) (by rfl) C_law_coin.mg C_law_coin.kp C_law_coin.bd .nil pass0 (pa_cons (pv 0) (pa_cons (pe_callB (call_lenB ⟨P, w, K⟩ rfl hu) (by rfl) TX.n_len (by decide +kernel) (pa_cons (pv 3) pa_nil)) pa_nil))) (fun _ _ => rfl)) pa_nil))) (pg_tupB ⟨P, w, K⟩ rfl 2 rfl (pgs_cons (pg_name (i := 8) sc_law_bent_plan.nd rfl (Or.inr rfl)) (pgs_cons (pg_name (i := 9) sc_law_bent_plan.nd rfl (Or.inr rfl)) pgs_nil))))
    (pss_cons (ps_if (pt_cmpR (op_eqB ⟨P, w, K⟩ rfl hu) (pe_lc (own := [("step", 15)]) (by rfl) sc_law_bent_plan.nd (pi_listB ⟨P, w, K⟩ rfl (pe_ix (ix_B ⟨P, w, K⟩ rfl hu) (pv 4) (pv 5) (fun _ _ => rfl))) (blkOk_by (N := N_law_bent_plan) (sc := defScope s_law_bent_plan) (by decide +kernel)) (fun _ _ _ _ _ => (pg_name (i := 15) sc_law_bent_plan.nd rfl (Or.inl rfl))) (fun _ _ _ _ _ => (pts_one (pt_cmpR (op_eqB ⟨P, w, K⟩ rfl hu) (pe_slice (sl_B ⟨P, w, K⟩ rfl) (pv 15) po_none (po_some pe_int)) (pe_tup (pa_cons (pv 7) (pa_cons (pv 8) (pa_cons (pv 9) pa_nil)))) (nomark _)))) (fun _ _ _ _ _ => pe_int)) (pe_lst pa_nil) (nomark _)) (pss_one (ps_expr (pe_bm PySem.F.plainAttrs_list PySem.F.slot_list_append PySem.F.type_list_append mt_append (pe_ix (ix_B ⟨P, w, K⟩ rfl hu) (pv 4) (pv 5) (fun _ _ => rfl)) (pa_cons (pe_tup (pa_cons (pv 7) (pa_cons (pv 8) (pa_cons (pv 9) (pa_cons (pe_call C_law_coin.ok (hr.mono (by decide)) (by rfl) C_law_coin.mg C_law_coin.kp C_law_coin.bd .nil pass0 (pa_cons (pv 0) (pa_cons (pe_callB (call_lenB ⟨P, w, K⟩ rfl hu) (by rfl) TX.n_len (by decide +kernel) (pa_cons (pv 1) pa_nil)) pa_nil))) pa_nil))))) pa_nil)))) pss_nil)
    (pss_one (ps_ret (pv 4)))))) pss_nil)
    (pss_cons (ps_set (i := 10) sc_law_bent_plan.nd rfl (Or.inl rfl) (pe_call C_law_coin.ok (hr.mono (by decide)) (by rfl) C_law_coin.mg C_law_coin.kp C_law_coin.bd .nil pass0 (pa_cons (pv 0) (pa_cons (pe_callB (call_lenB ⟨P, w, K⟩ rfl hu) (by rfl) TX.n_len (by decide +kernel) (pa_cons (pe_ix (ix_B ⟨P, w, K⟩ rfl hu) (pv 4) (pv 5) (fun _ _ => rfl)) pa_nil)) pa_nil))))
    (pss_cons (ps_asg (pe_ix (ix_B ⟨P, w, K⟩ rfl hu) (pe_ix (ix_B ⟨P, w, K⟩ rfl hu) (pv 4) (pv 5) (fun _ _ => rfl)) (pv 10) (fun _ _ => rfl)) (pg_tupB ⟨P, w, K⟩ rfl 4 rfl (pgs_cons (pg_name (i := 7) sc_law_bent_plan.nd rfl (Or.inr rfl)) (pgs_cons (pg_name (i := 8) sc_law_bent_plan.nd rfl (Or.inr rfl)) (pgs_cons (pg_name (i := 9) sc_law_bent_plan.nd rfl (Or.inr rfl)) (pgs_cons (pg_name (i := 11) sc_law_bent_plan.nd rfl (Or.inl rfl)) pgs_nil))))))
    (pss_cons (ps_set (i := 12) sc_law_bent_plan.nd rfl (Or.inl rfl) (pe_op (op_addB ⟨P, w, K⟩ rfl) (pe_slice (sl_B ⟨P, w, K⟩ rfl) (pe_ix (ix_B ⟨P, w, K⟩ rfl hu) (pv 4) (pv 5) (fun _ _ => rfl)) po_none (po_some (pv 10))) (pe_slice (sl_B ⟨P, w, K⟩ rfl) (pe_ix (ix_B ⟨P, w, K⟩ rfl hu) (pv 4) (pv 5) (fun _ _ => rfl)) (po_some (pe_op (op_addB ⟨P, w, K⟩ rfl) (pv 10) pe_int)) po_none)))
    (pss_cons (ps_if (pt_cmpR (op_eqB ⟨P, w, K⟩ rfl hu) (pv 6) pe_int (nomark _)) (pss_one (ps_asg (pv 12) (pg_sub (pv 4) (pv 5) (set_B ⟨P, w, K⟩ rfl hu)))) (pss_one (ps_if (pt_cmpR (op_eqB ⟨P, w, K⟩ rfl hu) (pv 6) pe_int (nomark _)) (pss_one (ps_asg (pe_op (op_addB ⟨P, w, K⟩ rfl) (pv 12) (pe_lst (pa_cons (pe_tup (pa_cons (pv 7) (pa_cons (pv 8) (pa_cons (pv 9) (pa_cons (pe_call C_law_coin.ok (hr.mono (by decide)) (by rfl) C_law_coin.mg C_law_coin.kp C_law_coin.bd .nil pass0 (pa_cons (pv 0) (pa_cons (pe_callB (call_lenB ⟨P, w, K⟩ rfl hu) (by rfl) TX.n_len (by decide +kernel) (pa_cons (pv 1) pa_nil)) pa_nil))) pa_nil))))) pa_nil))) (pg_sub (pv 4) (pv 5) (set_B ⟨P, w, K⟩ rfl hu)))) (pss_cons (ps_set (i := 13) sc_law_bent_plan.nd rfl (Or.inr rfl) (pe_ix (ix_B ⟨P, w, K⟩ rfl hu) (pv 3) (pe_call C_law_coin.ok (hr.mono (by decide)) (by rfl) C_law_coin.mg C_law_coin.kp C_law_coin.bd .nil pass0 (pa_cons (pv 0) (pa_cons (pe_callB (call_lenB ⟨P, w, K⟩ rfl hu) (by rfl) TX.n_len (by decide +kernel) (pa_cons (pv 3) pa_nil)) pa_nil))) (fun _ _ => rfl)))
    (pss_one (ps_if (pt_cmpR (op_eqB ⟨P, w, K⟩ rfl hu) (pe_lc (own := [("step", 15)]) (by rfl) sc_law_bent_plan.nd (pi_listB ⟨P, w, K⟩ rfl (pv 12)) (blkOk_by (N := N_law_bent_plan) (sc := defScope s_law_bent_plan) (by decide +kernel)) (fun _ _ _ _ _ => (pg_name (i := 15) sc_law_bent_plan.nd rfl (Or.inl rfl))) (fun _ _ _ _ _ => (pts_one (pt_cmpR (op_eqB ⟨P, w, K⟩ rfl hu) (pe_slice (sl_B ⟨P, w, K⟩ rfl) (pv 15) po_none (po_some pe_int)) (pe_tup (pa_cons (pv 7) (pa_cons (pv 8) (pa_cons (pv 13) pa_nil)))) (nomark _)))) (fun _ _ _ _ _ => pe_int)) (pe_lst pa_nil) (nomark _)) (pss_one (ps_asg (pe_op (op_addB ⟨P, w, K⟩ rfl) (pv 12) (pe_lst (pa_cons (pe_tup (pa_cons (pv 7) (pa_cons (pv 8) (pa_cons (pv 13) (pa_cons (pv 11) pa_nil))))) pa_nil))) (pg_sub (pv 4) (pv 5) (set_B ⟨P, w, K⟩ rfl hu)))) pss_nil))))))
    (pss_one (ps_ret (pv 4))))))))), ?_⟩
    refine run_M (n := 12) fh fm hm hd rfl q ?_
    dsimp only [cxOf]
    -- the rooms, each a list of its own
    refine es_seq ?_
    refine es_par3N (by decide) (by decide) (by decide) (ea_consN (ev_lcN (ei_L (ev_var (by rfl) ⟨_, Pu.d, ?_⟩))))
    refine ⟨by rw [List.length_map]; omega, fun i acc δ => acc = (p.take i).map eSs4 ∧ δ = [.arg m us, .d (ePlan p), .d (.lst (lines.map .str)), .d (.lst (words.map .str)), .no, .no, .no, .no, .no, .no, .no, .no, .no, .no, .no, .no], ⟨by simp, rfl⟩, fun _ _ _ _ => trivial, ?_, ?_⟩
    · rintro i t acc δ ht _ ⟨rfl, rfl⟩
      rw [List.getElem?_map] at ht
      obtain ⟨r, hr', rfl⟩ := Option.map_eq_some_iff.mp ht
      refine gt_name (by simp) ?_
      refine et_yes ⟨rfl, ev_cb (ea_cons (ev_var (by rfl) ⟨_, Pu.d, ea_nil (oa_list LstV.d fun p1 => ⟨p1, _, rfl, ?_, rfl⟩)⟩))⟩
      rw [List.take_add_one, hr']; simp [eSs4]
    rintro acc δ _ ⟨rfl, rfl⟩ pf bs hbs
    have hbl : bs.length = p.length := by rw [hbs, List.length_map, List.length_take, List.length_map]; omega
    have hbs : bs.length = (p.map eSs4).length := by rw [hbl, List.length_map]
    rw [List.length_map, List.take_length]
    refine ⟨_, _, rfl, ea_cons (ev_coin ?_)⟩
    walk_at "e"
    refine ⟨_, us, n0, _, rfl, rfl, hmint, by omega, by rw [List.length_map]; omega, small (by rw [List.length_map]; omega), fun us1 k hm1 hk1 hk2 => ⟨_, Pu.d, ea_cons (ev_coin ?_)⟩⟩
    rw [List.length_map] at hk2
    obtain ⟨k, rfl⟩ := Int.eq_ofNat_of_zero_le hk1
    walk_at "e"
    refine ⟨_, us1, n0 + 1, 4, rfl, rfl, hm1, by omega, by decide, small (by decide), fun us2 way hm2 hw1' hw2' => ⟨_, Pu.d, ea_nil ⟨_, _, _, rfl, .nst, .p .d, .p .d, ?_⟩⟩⟩
    have hkl : k < p.length := by omega
    obtain ⟨r, hrk⟩ : ∃ r, p[k]? = some r := ⟨_, List.getElem?_eq_getElem hkl⟩
    obtain ⟨b, hb⟩ : ∃ b, bs[k]? = some b := ⟨_, List.getElem?_eq_getElem (by omega)⟩
    have hns : (ownNs bs (p.map eSs4))[k]? = some (.o b (r.map eS)) := by
      have e1 : p[k] = r := by rw [List.getElem?_eq_getElem hkl] at hrk; injection hrk
      have e2 : bs[k]'(by omega) = b := by rw [List.getElem?_eq_getElem (by omega)] at hb; injection hb
      rw [ownNs_get hbs (k := k) (by rw [List.length_map]; exact hkl), List.getElem_map, e1, e2]; rfl
    have hrm := List.mem_of_getElem? hrk
    obtain ⟨hrz, hrs, hrn⟩ := hp.g.2 r hrm
    have hrl := hp.r r hrm
    have hrw := hp.s r hrm
    have hrok : ∀ s ∈ r, okS s := fun s hs => (hrs s hs).ok
    have hatk : atI (ownNs bs (p.map eSs4)) (k : Nat) = some (.o b (r.map eS)) := L2.atI_nat hns
    refine es_is (δ' := [.arg m us2, .d (ePlan p), .d (.lst (lines.map .str)), .d (.lst (words.map .str)), .nst pf (ownNs bs (p.map eSs4)), .d (.int (k : Nat)), .d (.int way), .no, .no, .no, .no, .no, .no, .no, .no, .no]) rfl ?_
    -- a room's slot
    have fin : ∀ (N : List SV → Prop) (us' : OW) (ns : List NI) (q' : Plan) (x7 x8 x9 x10 x11 x12 x13 x14 x15 : SV), Mint (n0 + 10) us' → q'.length = p.length → Sml O (R + 1) lines words q' → ns.map NI.tr = q'.map eRoom →
        ES ⟨⟨P, w, K⟩, F, H, some m, [], fun _ h => absurd h List.not_mem_nil⟩ (tRet (tVar 4)) [.arg m us', .d (ePlan p), .d (.lst (lines.map .str)), .d (.lst (words.map .str)), .nst pf ns, .d (.int (k : Nat)), .d (.int way), x7, x8, x9, x10, x11, x12, x13, x14, x15] { rt := fun δ r => ∃ us', δ[0]? = some (.arg m us') ∧ RTr (PP us') r, nx := N } := fun N us' ns q' x7 x8 x9 x10 x11 x12 x13 x14 x15 hm' hql hq htr => by
      refine es_thick (j := 4) rfl ?_
      rw [htr]
      exact es_ret (ev_take (i := 4) (by rfl) ⟨us', rfl, hk us' q' hm' hql hq⟩)
    have same : ((ownNs bs (p.map eSs4))).map NI.tr = p.map eRoom := by rw [ownNs_tr hbs, rooms_lst4]
    -- sizes
    refine es_seqJ (fun δ => r ≠ [] ∧ δ = [.arg m us2, .d (ePlan p), .d (.lst (lines.map .str)), .d (.lst (words.map .str)), .nst pf (ownNs bs (p.map eSs4)), .d (.int (k : Nat)), .d (.int way), .no, .no, .no, .no, .no, .no, .no, .no, .no]) ?_ ?_
    · refine es_if (EVT.imp (P := fun δ b => (b = false → r ≠ []) ∧ δ = [.arg m us2, .d (ePlan p), .d (.lst (lines.map .str)), .d (.lst (words.map .str)), .nst pf (ownNs bs (p.map eSs4)), .d (.int (k : Nat)), .d (.int way), .no, .no, .no, .no, .no, .no, .no, .no, .no]) ?_ ?_)
      · refine et_or (et_val (ev_op (ev_var (by rfl) ⟨_, Pu.d, ev_int ⟨_, Pu.d, o2_eqI ⟨_, rfl, ?_⟩⟩⟩)))
        refine ite2 (fun _ => ⟨(fun h => nomatch h), rfl⟩) (fun _ => ?_)
        refine et_val (ev_op (ev_op (ev_ptrN (a := pf) (by rfl) ⟨_, Pu.ptr, ev_var (by rfl) ⟨_, Pu.d, uix_nO 4 (by rfl) hatk ⟨_, Pu.ptr, ev_lst (ea_nil ⟨[], rfl, (show 0 ≤ sizeLine by omega), fun p1 => ⟨_, Pu.fr, ?_⟩⟩)⟩⟩⟩)))
        refine o2_eqN (ts := r.map eS) (ds := r.map dS) (u := .lst (([] : DL.Room).map eS)) (e := .list (([] : DL.Room).map dS)) ⟨4, pf, _, k, rfl, hns⟩ (pys_map eS_py r) (by simp [T.py, T.pys]) (eRoom_shaped4 hrok) (eRoom_shaped4 (r := []) fun _ h => nomatch h) (b := decide (r = [])) (by rw [PyData.eqv]; exact eqvAll_map dS_eqv r []) ⟨_, rfl, ?_⟩
        exact ⟨fun h => of_decide_eq_false h, rfl⟩
      rintro δ bb ⟨hbb, rfl⟩
      cases bb with
      | false => exact es_next ⟨hbb rfl, rfl⟩
      | true =>
        refine ite2 (fun _ => ?_) (fun h => absurd rfl h)
        -- a step more
        refine es_seqJ (fun δ => ∃ (us : OW) (sg : Str), Mint (n0 + 3) us ∧ (sg = "!" ∨ sg = "?") ∧ (O → ∀ s ∈ r, s.1 = sg) ∧ δ = [.arg m us, .d (ePlan p), .d (.lst (lines.map .str)), .d (.lst (words.map .str)), .nst pf (ownNs bs (p.map eSs4)), .d (.int (k : Nat)), .d (.int way), .d (.str sg), .no, .no, .no, .no, .no, .no, .no, .no]) ?_ ?_
        · refine es_asg (ev_ifx (et_val (ev_op (ev_op (ev_ptrN (a := pf) (by rfl) ⟨_, Pu.ptr, ev_var (by rfl) ⟨_, Pu.d, uix_nO 4 (by rfl) hatk ⟨_, Pu.ptr, ev_lst (ea_nil ⟨[], rfl, (show 0 ≤ sizeLine by omega), fun p1 => ⟨_, Pu.fr, ?_⟩⟩)⟩⟩⟩)))))
          refine o2_neN (ts := r.map eS) (ds := r.map dS) (u := .lst (([] : DL.Room).map eS)) (e := .list (([] : DL.Room).map dS)) ⟨4, pf, _, k, rfl, hns⟩ (pys_map eS_py r) (by simp [T.py, T.pys]) (eRoom_shaped4 hrok) (eRoom_shaped4 (r := []) fun _ h => nomatch h) (b := decide (r = [])) (by rw [PyData.eqv]; exact eqvAll_map dS_eqv r []) ⟨_, rfl, ?_⟩
          by_cases hre : r = []
          · rw [decide_eq_true hre]
            refine ite2 (fun h => nomatch h) (fun _ => ?_)
            refine ev_op (ev_lst ?_)
            walk_at "e"
            refine ⟨[.str "!", .str "?"], rfl, (show 2 ≤ sizeLine by omega), fun p1 => ⟨_, Pu.fr, ?_⟩⟩
            refine ev_coin ?_
            walk_at "e"
            refine ⟨_, us2, n0 + 2, 2, rfl, rfl, hm2, by omega, by decide, small (by decide), fun us3 v hm3 hv1 hv2 => ⟨_, Pu.d, ?_⟩⟩
            have hsg : ∃ sg : Str, atI [T.str "!", T.str "?"] v = some (.str sg) ∧ (sg = "!" ∨ sg = "?") := by
              have : v = 0 ∨ v = 1 := by omega
              rcases this with h | h <;> subst h
              · exact ⟨"!", rfl, .inl rfl⟩
              · exact ⟨"?", rfl, .inr rfl⟩
            obtain ⟨sg, hsg, hsg2⟩ := hsg
            exact uix_L LstV.d hsg (gt_name all_in ⟨us3, sg, hm3, hsg2, fun _ s hs => (by rw [hre] at hs; cases hs), rfl⟩)
          · rw [decide_eq_false hre]
            refine ite2 (fun _ => ?_) (fun h => absurd rfl h)
            have hl := List.length_pos_iff.mpr hre
            refine ev_op (ev_op (ev_op (ev_ptrN (a := pf) (by rfl) ⟨_, Pu.ptr, ev_var (by rfl) ⟨_, Pu.d, uix_nO 4 (by rfl) hatk ⟨_, Pu.ptr, ev_int ⟨_, Pu.d, ?_⟩⟩⟩⟩)))
            have hst := hrs _ (List.getElem_mem hl)
            refine uix_L (LstV.n ⟨4, pf, _, k, rfl, hns⟩) (t := eS r[0]) (show atI (r.map eS) ((0 : Nat) : Int) = _ from atI_nat (by rw [List.getElem?_map, List.getElem?_eq_getElem hl]; rfl)) ⟨_, Pu.d, ev_int ⟨_, Pu.d, ?_⟩⟩
            exact uix_T (t := .str r[0].1) (by rfl) (gt_name all_in ⟨us2, r[0].1, hm2.mono (by omega), hst.1, fun o s hs => hp.o o r hrm s hs _ (List.getElem_mem hl), rfl⟩)
        rintro δ ⟨us3, sg, hm3, hsg, hsgO, rfl⟩
        refine es_seq ?_
        refine es_tupG (by decide) (ea_cons (ev_op (ev_var (by rfl) ⟨_, Pu.d, ev_coin ?_⟩)))
        walk_at "e"
        refine ⟨_, us3, n0 + 3, _, rfl, rfl, hm3, by omega, by rw [List.length_map]; omega, small (by rw [List.length_map]; omega), fun us4 v1 hm4 hv1 hv2 => ⟨_, Pu.d, ?_⟩⟩
        rw [List.length_map] at hv2
        obtain ⟨v1, rfl⟩ := Int.eq_ofNat_of_zero_le hv1
        have hv1l : v1 < lines.length := by omega
        refine uix_m (f := T.str) (l := lines) LstV.d hv1l ⟨_, Pu.d, ea_cons (ev_op (ev_var (by rfl) ⟨_, Pu.d, ev_coin ?_⟩))⟩
        walk_at "e"
        refine ⟨_, us4, n0 + 4, _, rfl, rfl, hm4, by omega, by rw [List.length_map]; omega, small (by rw [List.length_map]; omega), fun us5 v2 hm5 hv3 hv4 => ⟨_, Pu.d, ?_⟩⟩
        rw [List.length_map] at hv4
        obtain ⟨v2, rfl⟩ := Int.eq_ofNat_of_zero_le hv3
        have hv2l : v2 < words.length := by omega
        refine uix_m (f := T.str) (l := words) LstV.d hv2l ⟨_, Pu.d, ea_nil ⟨_, _, rfl, .d, .d, ?_⟩⟩
        have hlm := List.getElem_mem hv1l
        have hwm := List.getElem_mem hv2l
        generalize lines[v1] = line at hlm
        generalize words[v2] = word at hwm
        refine es_is (δ' := [.arg m us5, .d (ePlan p), .d (.lst (lines.map .str)), .d (.lst (words.map .str)), .nst pf (ownNs bs (p.map eSs4)), .d (.int (k : Nat)), .d (.int way), .d (.str sg), .d (.str line), .d (.str word), .no, .no, .no, .no, .no, .no]) rfl ?_
        have okn : okK (sg, line, word) := ⟨sign_ok hsg, (hln _ hlm).ok, (hwn _ hwm).ok⟩
        refine es_seqJ (fun δ => ∃ (us : OW) (ns : List NI) (q' : Plan), Mint (n0 + 10) us ∧ q'.length = p.length ∧ Sml O (R + 1) lines words q' ∧ ns.map NI.tr = q'.map eRoom ∧ δ = [.arg m us, .d (ePlan p), .d (.lst (lines.map .str)), .d (.lst (words.map .str)), .nst pf ns, .d (.int (k : Nat)), .d (.int way), .d (.str sg), .d (.str line), .d (.str word), .no, .no, .no, .no, .no, .no]) ?_ ?_
        · refine es_if (et_val (ev_op (ev_lcI (ei_N (ev_op (ev_ptrN (a := pf) (by rfl) ⟨_, Pu.ptr, ev_var (by rfl) ⟨_, Pu.d, uix_nO 4 (by rfl) hatk ⟨b, r.map eS, rfl, ⟨4, pf, _, k, rfl, hns⟩, ?_⟩⟩⟩))))))
          refine ⟨by rw [List.length_map]; omega, fun i acc δ => acc = (onesOf (r.take i) (sg, line, word)).map (fun n => T.int (n : Nat)) ∧ δ = [.arg m us5, .d (ePlan p), .d (.lst (lines.map .str)), .d (.lst (words.map .str)), .nst pf (ownNs bs (p.map eSs4)), .d (.int (k : Nat)), .d (.int way), .d (.str sg), .d (.str line), .d (.str word), .no, .no, .no, .no, .no, .no], ⟨by simp [onesOf], rfl⟩, ?_, ?_, ?_⟩
          · rintro i acc δ ⟨_, rfl⟩; exact ⟨4, pf, _, k, rfl, hns⟩
          · rintro i t acc δ hti _ ⟨rfl, rfl⟩
            rw [List.getElem?_map] at hti
            obtain ⟨st, hst, rfl⟩ := Option.map_eq_some_iff.mp hti
            refine gt_name (by simp) ?_
            refine et_val (ev_op (ev_sl (ev_var (by rfl) ⟨_, Pu.d, eo_none (eo_some (ev_int ⟨_, rfl, ?_⟩))⟩)))
            refine os_T (ts := [.str st.1, .str st.2.1, .str st.2.2.1, .int st.2.2.2]) (show ¬ (HT.sIx 4 0 none = 0 ∧ HT.sIx 4 4 (some 3) = 4) by decide) ⟨_, Pu.d, ev_tup ?_⟩
            walk_at "e"
            refine ⟨[.str sg, .str line, .str word], rfl, (show 3 ≤ sizeLine by omega), ⟨_, Pu.d, ?_⟩⟩
            refine o2_eq (t := eK (kyOf st)) (u := eK (sg, line, word)) (eK_py _) (eK_py _) (dK_shaped4 (hrok st (List.mem_of_getElem? hst))) (dK_shaped4 okn) (dK_eqv _ _) ⟨_, rfl, ?_⟩
            have e : r.take (i + 1) = r.take i ++ [st] := by rw [List.take_add_one, hst]; rfl
            by_cases hky : kyOf st = (sg, line, word)
            · rw [decide_eq_true hky]
              refine ite2 (fun _ => ?_) (fun h => absurd rfl h)
              refine ev_int ⟨_, Pu.d, ?_, rfl⟩
              rw [e]; simp [onesOf, List.filter_append, hky]
            · rw [decide_eq_false hky]
              refine ite2 (fun h => nomatch h) (fun _ => ⟨?_, rfl⟩)
              rw [e]; simp [onesOf, List.filter_append, hky]
          rintro acc δ _ ⟨rfl, rfl⟩ p2
          rw [List.length_map, List.take_length]
          refine ⟨_, Pu.fr, ev_lst (ea_nil ⟨[], rfl, (show 0 ≤ sizeLine by omega), fun p3 => ⟨_, Pu.fr, ?_⟩⟩)⟩
          refine o2_eq (t := .lst ((onesOf r (sg, line, word)).map fun n => T.int (n : Nat))) (u := .lst (([] : List Nat).map fun n => T.int (n : Nat))) (ints4_py _) (ints4_py _) (ints4_shaped _) (ints4_shaped _) (ints4_eqv _ _) ⟨_, rfl, ?_⟩
          by_cases hno : onesOf r (sg, line, word) = []
          · rw [decide_eq_true hno]
            refine ite2 (fun _ => ?_) (fun h => absurd rfl h)
            refine es_appN (ev_op (ev_ptrN (a := pf) (by rfl) ⟨_, Pu.ptr, ev_var (by rfl) ⟨_, Pu.d, uix_nO 4 (by rfl) hatk ⟨_, rfl, ⟨_, 4, pf, _, k, rfl, hns⟩, ?_⟩⟩⟩))
            refine ev_tup (ea_cons (ev_var (by rfl) ⟨_, Pu.d, ea_cons (ev_var (by rfl) ⟨_, Pu.d, ea_cons (ev_var (by rfl) ⟨_, Pu.d, ea_cons (ev_coin ?_)⟩)⟩)⟩))
            walk_at "e"
            refine ⟨_, us5, n0 + 5, _, rfl, rfl, hm5, by omega, by rw [List.length_map]; omega, small (by rw [List.length_map]; omega), fun us6 gl hm6 hg1 hg2 => ⟨_, Pu.d, ?_⟩⟩
            rw [List.length_map] at hg2
            refine ea_nil ⟨[.str sg, .str line, .str word, .int gl], rfl, (show 4 ≤ sizeLine by omega), ⟨_, Pu.d, 4, k, pf, _, _, rfl, hns, by rw [List.length_map]; omega, ?_⟩⟩
            have hgood : GoodStep (p.length : Nat) ((sg, line, word, gl) : Stp) := ⟨hsg, hln _ hlm, hwn _ hwm, hg1, hg2⟩
            refine ⟨us6, _, p.set k (r ++ [(sg, line, word, gl)]), hm6.mono (by omega), List.length_set, hp.set (R' := R + 1) (by omega) (by omega) (by rw [List.length_append]; show _ + 1 ≤ _; omega) (fun s hs => ?_) ?_ (fun o => one_snoc (hp.o o r hrm) (hsgO o)), ownNs_set4 hbl (by rw [NI.tr, List.map_append]; rfl), rfl⟩
            · rcases List.mem_append.mp hs with hs | hs
              · exact ⟨hrs s hs, hrw s hs⟩
              · rw [List.mem_singleton] at hs; subst hs; exact ⟨hgood, hlm, hwm⟩
            · rw [List.map_append, List.nodup_append]
              refine ⟨hrn, by simp, fun x hx y hy e => ?_⟩
              rw [List.map_singleton, List.mem_singleton] at hy
              subst hy; subst e
              exact onesOf_nil.mp hno hx
          · rw [decide_eq_false hno]
            refine ite2 (fun h => nomatch h) (fun _ => ?_)
            exact es_next ⟨us5, _, p, hm5.mono (by omega), rfl, hp.mono (by omega), same, rfl⟩
        rintro δ ⟨us6, ns, q', hm6, hql, hq, htr, rfl⟩
        exact fin _ us6 ns q' _ _ _ _ _ _ _ _ _ hm6 hql hq htr
    rintro δ ⟨hr0, rfl⟩
    have hr0l := List.length_pos_iff.mpr hr0
    -- which step
    refine es_seq ?_
    refine es_asg (ev_coin ?_)
    walk_at "e"
    refine ev_ptrN (a := pf) (by rfl) ⟨_, Pu.ptr, ev_var (by rfl) ⟨_, Pu.d, uix_nO 4 (by rfl) hatk ⟨_, Pu.ptr, ea_nil ?_⟩⟩⟩
    refine ulen_L (LstV.n ⟨4, pf, _, k, rfl, hns⟩) ⟨_, Pu.d, ea_nil ?_⟩
    rw [List.length_map]
    refine ⟨_, us2, n0 + 2, r.length, rfl, rfl, hm2, by omega, by omega, small (by omega), fun us3 y hm3 hy1 hy2 => ?_⟩
    obtain ⟨y, rfl⟩ := Int.eq_ofNat_of_zero_le hy1
    have hyl : y < r.length := by omega
    refine gt_name all_in ?_
    refine es_seq ?_
    refine es_asg (ev_op (ev_op (ev_ptrN (a := pf) (by rfl) ⟨_, Pu.ptr, ev_var (by rfl) ⟨_, Pu.d, uix_nO 4 (by rfl) hatk ⟨_, Pu.ptr, ev_var (by rfl) ⟨_, Pu.d, ?_⟩⟩⟩⟩)))
    refine uix_m (f := eS) (l := r) (LstV.n ⟨4, pf, _, k, rfl, hns⟩) hyl ?_
    have hstm := List.getElem_mem hyl
    have hst := hrs _ hstm
    have hsw := hrw _ hstm
    have hperm : r.Perm (r[y] :: (r.take y ++ r.drop (y + 1))) := by
      have e : r = r.take y ++ r[y] :: r.drop (y + 1) := by rw [← List.drop_eq_getElem_cons hyl, List.take_append_drop]
      conv => lhs; rw [e]
      exact List.perm_middle
    have hnk : kyOf r[y] ∉ (r.take y ++ r.drop (y + 1)).map kyOf ∧ ((r.take y ++ r.drop (y + 1)).map kyOf).Nodup := by
      have := (hperm.map kyOf).nodup_iff.mp hrn
      rw [List.map_cons, List.nodup_cons] at this
      exact this
    have hrest : ∀ s ∈ r.take y ++ r.drop (y + 1), s ∈ r := fun s hs => hperm.mem_iff.mpr (List.mem_cons_of_mem _ hs)
    have hrestl : (r.take y ++ r.drop (y + 1)).length + 1 = r.length := by have := hperm.length_eq; rw [List.length_cons] at this; omega
    have ecut : (r.map eS).take y ++ (r.map eS).drop (y + 1) = (r.take y ++ r.drop (y + 1)).map eS := by rw [List.map_append, List.map_take, List.map_drop]
    generalize hrs2 : r.take y ++ r.drop (y + 1) = rest at hnk hrest hrestl ecut
    generalize r[y] = st at hst hsw hnk hstm
    obtain ⟨s1, s2, s3, s4⟩ := st
    refine gt_tup (by rfl) (gts_cons (gt_name all_in (gts_cons (gt_name all_in (gts_cons (gt_name all_in (gts_cons (gt_name all_in (gts_nil ?_)))))))))
    -- the others
    refine es_seq ?_
    refine es_asg (ev_op (ev_sl (ev_op (ev_ptrN (a := pf) (by rfl) ⟨_, Pu.ptr, ev_var (by rfl) ⟨_, Pu.d, uix_nO 4 (by rfl) hatk ⟨_, Pu.ptr, ?_⟩⟩⟩))))
    walk_at "e"
    refine os_L (LstV.n ⟨4, pf, _, k, rfl, hns⟩) fun p3 => ⟨_, Pu.fr, ?_⟩
    rw [cut_take (r.map eS) y]
    refine ev_sl (ev_op (ev_ptrN (a := pf) (by rfl) ⟨_, Pu.ptr, ev_var (by rfl) ⟨_, Pu.d, uix_nO 4 (by rfl) hatk ⟨_, Pu.ptr, eo_some (ev_op (ev_var (by rfl) ⟨_, Pu.d, ev_int ⟨_, Pu.d, o2_addI ⟨_, rfl, eo_none ?_⟩⟩⟩))⟩⟩⟩))
    rw [show (y : Int) + 1 = ((y + 1 : Nat) : Int) by omega]
    refine os_L (LstV.n ⟨4, pf, _, k, rfl, hns⟩) fun p4 => ⟨_, Pu.fr, ?_⟩
    rw [cut_drop (r.map eS) (y + 1)]
    refine o2_cat LstV.d LstV.d (by rw [List.length_take, List.length_drop, List.length_map]; omega) fun p5 => ?_
    rw [ecut]
    refine gt_name all_in ?_
    refine es_frz (i := 12) (by rfl) rfl ?_
    refine es_is (δ' := [.arg m us3, .d (ePlan p), .d (.lst (lines.map .str)), .d (.lst (words.map .str)), .nst pf (ownNs bs (p.map eSs4)), .d (.int (k : Nat)), .d (.int way), .d (.str s1), .d (.str s2), .d (.str s3), .d (.int (y : Nat)), .d (.int s4), .d (.lst (rest.map eS)), .no, .no, .no]) rfl ?_
    have hixk : ixN (ownNs bs (p.map eSs4)).length (k : Nat) = some k := by
      rw [ownNs_len hbs, List.length_map]
      unfold ixN
      rw [if_pos (by omega), if_pos (by omega)]; simp
    have rgood : ∀ s ∈ rest, GoodStep (p.length : Nat) s ∧ s.2.1 ∈ lines ∧ s.2.2.1 ∈ words := fun s hs => ⟨hrs s (hrest s hs), hrw s (hrest s hs)⟩
    have more : ∀ (s : Stp), GoodStep (p.length : Nat) s → s.2.1 ∈ lines → s.2.2.1 ∈ words → kyOf s ∉ rest.map kyOf → (O → ∀ x ∈ rest, x.1 = s.1) → Sml O (R + 1) lines words (p.set k (rest ++ [s])) := fun s h1 h2 h3 h4 h5 => by
      refine hp.set (R' := R + 1) (by omega) (by omega) (by rw [List.length_append]; show _ + 1 ≤ _; omega) (fun x hx => ?_) ?_ (fun o => one_snoc (fun a ha b hb => hp.o o r hrm a (hrest a ha) b (hrest b hb)) (h5 o))
      · rcases List.mem_append.mp hx with hx | hx
        · exact rgood x hx
        · rw [List.mem_singleton] at hx; subst hx; exact ⟨h1, h2, h3⟩
      · rw [List.map_append, List.nodup_append]
        refine ⟨hnk.2, by simp, fun a ha b hb e => ?_⟩
        rw [List.map_singleton, List.mem_singleton] at hb
        subst hb; subst e; exact h4 ha
    refine es_seqJ (fun δ => ∃ (us : OW) (ns : List NI) (q' : Plan) (x13 : SV), Mint (n0 + 10) us ∧ q'.length = p.length ∧ Sml O (R + 1) lines words q' ∧ ns.map NI.tr = q'.map eRoom ∧ δ = [.arg m us, .d (ePlan p), .d (.lst (lines.map .str)), .d (.lst (words.map .str)), .nst pf ns, .d (.int (k : Nat)), .d (.int way), .d (.str s1), .d (.str s2), .d (.str s3), .d (.int (y : Nat)), .d (.int s4), .d (.lst (rest.map eS)), x13, .no, .no]) ?_ ?_
    · refine es_if (et_val (ev_op (ev_var (by rfl) ⟨_, Pu.d, ev_int ⟨_, Pu.d, o2_eqI ⟨_, rfl, ?_⟩⟩⟩)))
      refine ite2 (fun _ => ?_) (fun _ => ?_)
      · refine es_sub (ev_var (by rfl) ⟨_, Pu.d, ev_ptrN (a := pf) (by rfl) ⟨_, Pu.ptr, ev_var (by rfl) ⟨_, Pu.d, ?_⟩⟩⟩)
        refine o3_nD 4 (by rfl) hixk ⟨us3, _, p.set k rest, _, hm3.mono (by omega), List.length_set, hp.set (R' := R + 1) (by omega) (by omega) (by omega) rgood hnk.2 (fun o a ha b hb => hp.o o r hrm a (hrest a ha) b (hrest b hb)), ownNs_set4 hbl rfl, rfl⟩
      refine es_if (et_val (ev_op (ev_var (by rfl) ⟨_, Pu.d, ev_int ⟨_, Pu.d, o2_eqI ⟨_, rfl, ?_⟩⟩⟩)))
      refine ite2 (fun _ => ?_) (fun _ => ?_)
      · refine es_sub (ev_op (ev_var (by rfl) ⟨_, Pu.d, ev_lst (ea_cons (ev_tup (ea_cons (ev_var (by rfl) ⟨_, Pu.d, ea_cons (ev_var (by rfl) ⟨_, Pu.d, ea_cons (ev_var (by rfl) ⟨_, Pu.d, ea_cons (ev_coin ?_)⟩)⟩)⟩))))⟩))
        walk_at "e"
        refine ⟨_, us3, n0 + 3, _, rfl, rfl, hm3, by omega, by rw [List.length_map]; omega, small (by rw [List.length_map]; omega), fun us4 gl hm4 hg1 hg2 => ⟨_, Pu.d, ?_⟩⟩
        rw [List.length_map] at hg2
        refine ea_nil ⟨[.str s1, .str s2, .str s3, .int gl], rfl, (show 4 ≤ sizeLine by omega), ⟨_, Pu.d, ea_nil ⟨[eS (s1, s2, s3, gl)], rfl, (show 1 ≤ sizeLine by omega), fun p6 => ⟨_, Pu.fr, ?_⟩⟩⟩⟩
        refine o2_cat LstV.d LstV.d (by rw [List.length_map]; show _ + 1 ≤ _; omega) fun p7 => ⟨_, Pu.fr, ?_⟩
        refine ev_ptrN (a := pf) (by rfl) ⟨_, Pu.ptr, ev_var (by rfl) ⟨_, Pu.d, ?_⟩⟩
        have el : rest.map eS ++ [eS (s1, s2, s3, gl)] = (rest ++ [(s1, s2, s3, gl)]).map eS := by rw [List.map_append]; rfl
        rw [el]
        exact o3_nD 4 (by rfl) hixk ⟨us4, _, p.set k (rest ++ [(s1, s2, s3, gl)]), _, hm4.mono (by omega), List.length_set, more _ ⟨hst.1, hst.2.1, hst.2.2.1, hg1, hg2⟩ hsw.1 hsw.2 hnk.1 (fun o x hx => (show x.1 = s1 from hp.o o r hrm x (hrest x hx) (s1, s2, s3, s4) hstm)), ownNs_set4 hbl rfl, rfl⟩
      refine es_seq ?_
      refine es_asg (ev_op (ev_var (by rfl) ⟨_, Pu.d, ev_coin ?_⟩))
      walk_at "e"
      refine ⟨_, us3, n0 + 3, _, rfl, rfl, hm3, by omega, by rw [List.length_map]; omega, small (by rw [List.length_map]; omega), fun us4 v2 hm4 hv3 hv4 => ⟨_, Pu.d, ?_⟩⟩
      rw [List.length_map] at hv4
      obtain ⟨v2, rfl⟩ := Int.eq_ofNat_of_zero_le hv3
      have hv2l : v2 < words.length := by omega
      refine uix_m (f := T.str) (l := words) LstV.d hv2l (gt_name all_in ?_)
      have hwm := List.getElem_mem hv2l
      generalize words[v2] = word at hwm
      refine es_is (δ' := [.arg m us4, .d (ePlan p), .d (.lst (lines.map .str)), .d (.lst (words.map .str)), .nst pf (ownNs bs (p.map eSs4)), .d (.int (k : Nat)), .d (.int way), .d (.str s1), .d (.str s2), .d (.str s3), .d (.int (y : Nat)), .d (.int s4), .d (.lst (rest.map eS)), .d (.str word), .no, .no]) rfl ?_
      have okn : okK (s1, s2, word) := ⟨sign_ok hst.1, hst.2.1.ok, (hwn _ hwm).ok⟩
      refine es_if (et_val (ev_op (ev_lcI (ei_L (ev_var (by rfl) ⟨_, Pu.d, ?_⟩)))))
      refine ⟨by rw [List.length_map]; omega, fun i acc δ => acc = (onesOf (rest.take i) (s1, s2, word)).map (fun n => T.int (n : Nat)) ∧ δ = [.arg m us4, .d (ePlan p), .d (.lst (lines.map .str)), .d (.lst (words.map .str)), .nst pf (ownNs bs (p.map eSs4)), .d (.int (k : Nat)), .d (.int way), .d (.str s1), .d (.str s2), .d (.str s3), .d (.int (y : Nat)), .d (.int s4), .d (.lst (rest.map eS)), .d (.str word), .no, .no], ⟨by simp [onesOf], rfl⟩, fun _ _ _ _ => trivial, ?_, ?_⟩
      · rintro i t acc δ hti _ ⟨rfl, rfl⟩
        rw [List.getElem?_map] at hti
        obtain ⟨st, hst', rfl⟩ := Option.map_eq_some_iff.mp hti
        refine gt_name (by simp) ?_
        refine et_val (ev_op (ev_sl (ev_var (by rfl) ⟨_, Pu.d, eo_none (eo_some (ev_int ⟨_, rfl, ?_⟩))⟩)))
        refine os_T (ts := [.str st.1, .str st.2.1, .str st.2.2.1, .int st.2.2.2]) (show ¬ (HT.sIx 4 0 none = 0 ∧ HT.sIx 4 4 (some 3) = 4) by decide) ⟨_, Pu.d, ev_tup ?_⟩
        walk_at "e"
        refine ⟨[.str s1, .str s2, .str word], rfl, (show 3 ≤ sizeLine by omega), ⟨_, Pu.d, ?_⟩⟩
        refine o2_eq (t := eK (kyOf st)) (u := eK (s1, s2, word)) (eK_py _) (eK_py _) (dK_shaped4 (hrok st (hrest st (List.mem_of_getElem? hst')))) (dK_shaped4 okn) (dK_eqv _ _) ⟨_, rfl, ?_⟩
        have e : rest.take (i + 1) = rest.take i ++ [st] := by rw [List.take_add_one, hst']; rfl
        by_cases hky : kyOf st = (s1, s2, word)
        · rw [decide_eq_true hky]
          refine ite2 (fun _ => ?_) (fun h => absurd rfl h)
          refine ev_int ⟨_, Pu.d, ?_, rfl⟩
          rw [e]; simp [onesOf, List.filter_append, hky]
        · rw [decide_eq_false hky]
          refine ite2 (fun h => nomatch h) (fun _ => ⟨?_, rfl⟩)
          rw [e]; simp [onesOf, List.filter_append, hky]
      rintro acc δ _ ⟨rfl, rfl⟩ p2
      rw [List.length_map, List.take_length]
      refine ⟨_, Pu.fr, ev_lst (ea_nil ⟨[], rfl, (show 0 ≤ sizeLine by omega), fun p3 => ⟨_, Pu.fr, ?_⟩⟩)⟩
      refine o2_eq (t := .lst ((onesOf rest (s1, s2, word)).map fun n => T.int (n : Nat))) (u := .lst (([] : List Nat).map fun n => T.int (n : Nat))) (ints4_py _) (ints4_py _) (ints4_shaped _) (ints4_shaped _) (ints4_eqv _ _) ⟨_, rfl, ?_⟩
      by_cases hno : onesOf rest (s1, s2, word) = []
      · rw [decide_eq_true hno]
        refine ite2 (fun _ => ?_) (fun h => absurd rfl h)
        refine es_sub (ev_op (ev_var (by rfl) ⟨_, Pu.d, ev_lst (ea_cons (ev_tup (ea_cons (ev_var (by rfl) ⟨_, Pu.d, ea_cons (ev_var (by rfl) ⟨_, Pu.d, ea_cons (ev_var (by rfl) ⟨_, Pu.d, ea_cons (ev_var (by rfl) ⟨_, Pu.d, ?_⟩)⟩)⟩)⟩))))⟩))
        refine ea_nil ⟨[.str s1, .str s2, .str word, .int s4], rfl, (show 4 ≤ sizeLine by omega), ⟨_, Pu.d, ea_nil ⟨[eS (s1, s2, word, s4)], rfl, (show 1 ≤ sizeLine by omega), fun p6 => ⟨_, Pu.fr, ?_⟩⟩⟩⟩
        refine o2_cat LstV.d LstV.d (by rw [List.length_map]; show _ + 1 ≤ _; omega) fun p7 => ⟨_, Pu.fr, ?_⟩
        refine ev_ptrN (a := pf) (by rfl) ⟨_, Pu.ptr, ev_var (by rfl) ⟨_, Pu.d, ?_⟩⟩
        have el : rest.map eS ++ [eS (s1, s2, word, s4)] = (rest ++ [(s1, s2, word, s4)]).map eS := by rw [List.map_append]; rfl
        rw [el]
        exact o3_nD 4 (by rfl) hixk ⟨us4, _, p.set k (rest ++ [(s1, s2, word, s4)]), _, hm4.mono (by omega), List.length_set, more _ ⟨hst.1, hst.2.1, hwn _ hwm, hst.2.2.2⟩ hsw.1 hwm (onesOf_nil.mp hno) (fun o x hx => (show x.1 = s1 from hp.o o r hrm x (hrest x hx) (s1, s2, s3, s4) hstm)), ownNs_set4 hbl rfl, rfl⟩
      · rw [decide_eq_false hno]
        refine ite2 (fun h => nomatch h) (fun _ => ?_)
        exact es_next ⟨us4, _, p, _, hm4.mono (by omega), rfl, hp.mono (by omega), same, rfl⟩
    rintro δ ⟨us6, ns, q', x13, hm6, hql, hq, htr, rfl⟩
    exact fin _ us6 ns q' _ _ _ _ _ _ _ _ _ hm6 hql hq htr
end
end K

namespace K
open PySem L2 DL
local macro_rules | `(tactic| walk_at "dl") => `(tactic| with_reducible first
  | refine es_if ?_ | refine es_append ?_ | refine es_sub ?_ | refine es_par3 ?_ | refine es_parD ?_ | refine es_asg ?_ | refine es_ret ?_ | refine es_retN ?_ | refine es_next ?_ | refine es_drop ?_ | refine es_break ?_ | refine es_cont ?_
  | refine et_val ?_ | refine et_B ?_ | refine et_not ?_ | refine et_and ?_ | refine et_or ?_ | refine et_yes ?_
  | refine ev_op ?_ | refine ev_un ?_ | refine ev_cb ?_ | refine ev_tup ?_ | refine ev_lst ?_ | refine ev_ifx ?_ | refine ev_andV ?_ | refine ev_orV ?_ | refine ev_notV ?_ | refine ev_sl ?_
  | refine ea_cons ?_ | refine ea_nil ?_ | refine ev_int ?_ | refine ev_str ?_ | refine ev_bl ?_ | refine ev_non ?_ | refine eo_none ?_ | refine eo_some ?_
  | refine gts_cons ?_ | refine gts_nil ?_
  | refine o2_addI ?_ | refine o2_ltI ?_ | refine o2_leI ?_ | refine o2_gtI ?_ | refine o2_geI ?_ | refine o2_ltS ?_ | refine o2_leS ?_ | refine o2_gtS ?_ | refine o2_sub ?_
  | refine oa_intI ?_ | refine oa_intB ?_ | refine oa_abs ?_ | refine oa_two ?_ | refine ulen_R ?_ | refine ulen_T ?_ | refine ulen_L LstV.d ?_
  | (refine ⟨_, Pu.d, ?_⟩) | (refine ⟨_, Pu.ptr, ?_⟩) | (refine ⟨_, Pu.fr, ?_⟩))
local macro_rules | `(tactic| walk_at "dv") => `(tactic| first
  | refine ev_var (by rfl) ?_ | refine ev_ptr (.inl (by rfl)) ?_ | refine ev_ptr (.inr (.inl (by rfl))) ?_ | refine ev_ptr (.inr (.inr (by rfl))) ?_
  | refine uix_L (LstV.o ⟨0, .inr (by rfl)⟩) (by rfl) ?_ | refine uix_L LstV.d (by rfl) ?_ | refine uix_T (by rfl) ?_
  | refine gt_tup (by rfl) ?_ | refine gt_name (by first | exact all_in | simp) ?_ | refine ⟨_, rfl, ?_⟩)
local macro_rules | `(tactic| walk_at "e") => `(tactic| repeat (first | walk_at "dl" | walk_at "dv"))
local macro_rules | `(tactic| walk_at "d") => `(tactic| repeat (first | with_reducible refine es_seq ?_ | walk_at "dl" | walk_at "dv"))
section
/-! ### drawn rooms: their lines and words are those handed over -/
/-- ways out on such lines, with such words -/
def GoodML (n : Nat) (lines words : List Str) (m : List (K3 × Int)) : Prop := GoodM n m ∧ ∀ p ∈ m, p.1.2.1 ∈ lines ∧ p.1.2.2 ∈ words
/-- the sign of a room's steps where they all have one -/
def sgW (way : Int) : Str := if Builtin.bitAnd way 1 = 0 then "!" else "?"
theorem GoodML.put {n : Nat} {lines words : List Str} {m : List (K3 × Int)} {k1 k2 k3 : Str} {v : Int} (h : GoodML n lines words m) (h1 : k1 = "!" ∨ k1 = "?") (h2 : IsName k2) (h3 : IsName k3) (h4 : 0 ≤ v) (h5 : v < n) (h6 : k2 ∈ lines) (h7 : k3 ∈ words) : GoodML n lines words (putM m (k1, k2, k3) v) :=
  ⟨h.1.put h1 h2 h3 h4 h5, fun p hp => (putM_mem hp).elim (h.2 p) fun e => by subst e; exact ⟨h6, h7⟩⟩
end
section
variable {P : Program} {w : World} {K : PySem.W.Frag} {mg : Str → Option Value} {base : Heap}
def SRoomStepsL : OW → List T → (OW → RT → Prop) → Prop := fun us ts P => ∃ (n : Nat) (count : Nat) (lines words : List Str) (one : Bool), n + 100 < 100000 ∧ Mint n us ∧ 0 < count ∧ count ≤ 1000 ∧ lines ≠ [] ∧ words ≠ [] ∧ lines.length ≤ 100 ∧ words.length ≤ 100 ∧ (∀ x ∈ lines, IsName x) ∧ (∀ x ∈ words, IsName x) ∧
  ts = [.int count, .lst (lines.map .str), .lst (words.map .str), .bl one] ∧ ∀ us' (r : Room), Mint (n + 20) us' → GoodRoom count r → r.length ≤ 3 → (∀ s ∈ r, s.2.1 ∈ lines ∧ s.2.2.1 ∈ words) → (one = true → ∀ s ∈ r, ∀ t ∈ r, s.1 = t.1) → P us' (.new (.lst (r.map eS)))
theorem okL_room_steps {f : Addr} {fd : FuncData} (Fn : Fun K "_law_room_steps" "_law_room_steps" s_law_room_steps f fd) (TX : TXF mg) (C_law_coin : Cal P w K mg base CX0 "_law_coin" 1 ["mint", "many"] (spM ⟨P, w, K⟩ SCoin)) : FnOk P w K mg base CX0 2 f fd ["mint", "count", "lines_here", "words_here", "one_sign"] (spM ⟨P, w, K⟩ SRoomStepsL) := by
  refine Fn.ok sc_law_room_steps (fun vs H Q E h => ?_) (fun cdv A outer s H vs Q E hr h => ?_)
  · obtain ⟨F, m, ws, us, ts, rfl, _, _, _, hd, P, ⟨_, _, _, _, _, _, _, _, _, _, _, _, _, _, _, rfl, _⟩, _⟩ := h
    rw [List.length_cons, hd.length]; rfl
  · obtain ⟨F, m, ws, us, ts, rfl, fh, fm, hm, hd, PP, ⟨n, count, lines, words, one, hn, hmint, hc0, hc1, hl0, hw0, hl1, hw1, hln, hwn, rfl, hk⟩, q⟩ := h
    have hu := hr.units
    refine ⟨_, (pss_cons (ps_par (i := 5) (j := 6) (by rfl) sc_law_room_steps.nd rfl rfl (by decide) rfl rfl (pa_cons (pe_call C_law_coin.ok (hr.mono (by decide)) (by rfl) C_law_coin.mg C_law_coin.kp C_law_coin.bd .nil pass0 (pa_cons (pv 0) (pa_cons pe_int pa_nil))) (pa_cons pe_dnewN pa_nil)) (by rfl))
    (pss_cons (ps_for PassesOwn.never rfl (pi_range1 (by rfl) TX.n_range (pa_cons (pe_ifExp (pt_cmpR op_uLt (pv 5) pe_int (nomark _)) pe_int (pe_op (op_addB ⟨P, w, K⟩ rfl) pe_int (pe_call C_law_coin.ok (hr.mono (by decide)) (by rfl) C_law_coin.mg C_law_coin.kp C_law_coin.bd .nil pass0 (pa_cons (pv 0) (pa_cons pe_int pa_nil))))) pa_nil)) (pg_name (i := 7) sc_law_room_steps.nd rfl (Or.inl rfl)) (pss_cons (ps_set (i := 8) sc_law_room_steps.nd rfl (Or.inl rfl) (pe_ix (ix_B ⟨P, w, K⟩ rfl hu) (pe_lst (pa_cons pe_str (pa_cons pe_str pa_nil))) (pe_ifExp (PW.pt (pw_or (pt_truth (pv 4) (by intro _; rfl)) (pw_or1 (pt_cmpR (op_eqB ⟨P, w, K⟩ rfl hu) (pe_call C_law_coin.ok (hr.mono (by decide)) (by rfl) C_law_coin.mg C_law_coin.kp C_law_coin.bd .nil pass0 (pa_cons (pv 0) (pa_cons pe_int pa_nil))) pe_int (nomark _))))) (pe_op op_and (pv 5) pe_int) (pe_call C_law_coin.ok (hr.mono (by decide)) (by rfl) C_law_coin.mg C_law_coin.kp C_law_coin.bd .nil pass0 (pa_cons (pv 0) (pa_cons pe_int pa_nil)))) (fun _ _ => rfl)))
    (pss_cons (ps_par (i := 9) (j := 10) (by rfl) sc_law_room_steps.nd rfl rfl (by decide) rfl rfl (pa_cons (pe_ix (ix_B ⟨P, w, K⟩ rfl hu) (pv 2) (pe_call C_law_coin.ok (hr.mono (by decide)) (by rfl) C_law_coin.mg C_law_coin.kp C_law_coin.bd .nil pass0 (pa_cons (pv 0) (pa_cons (pe_callB (call_lenB ⟨P, w, K⟩ rfl hu) (by rfl) TX.n_len (by decide +kernel) (pa_cons (pv 2) pa_nil)) pa_nil))) (fun _ _ => rfl)) (pa_cons (pe_ix (ix_B ⟨P, w, K⟩ rfl hu) (pv 3) (pe_call C_law_coin.ok (hr.mono (by decide)) (by rfl) C_law_coin.mg C_law_coin.kp C_law_coin.bd .nil pass0 (pa_cons (pv 0) (pa_cons (pe_callB (call_lenB ⟨P, w, K⟩ rfl hu) (by rfl) TX.n_len (by decide +kernel) (pa_cons (pv 3) pa_nil)) pa_nil))) (fun _ _ => rfl)) pa_nil)) (by rfl))
    (pss_one (ps_asg (pe_call C_law_coin.ok (hr.mono (by decide)) (by rfl) C_law_coin.mg C_law_coin.kp C_law_coin.bd .nil pass0 (pa_cons (pv 0) (pa_cons (pv 1) pa_nil))) (pg_sub (pv 6) (pe_tup (pa_cons (pv 8) (pa_cons (pv 9) (pa_cons (pv 10) pa_nil)))) (set_B ⟨P, w, K⟩ rfl hu)))))))
    (pss_one (ps_ret (pe_lock (pe_lc (own := [("told", 11), ("goal", 12)]) (by rfl) sc_law_room_steps.nd (pi_itemsN (pv 6)) (blkOk_by (N := N_law_room_steps) (sc := defScope s_law_room_steps) (by decide +kernel)) (fun _ _ _ _ _ => (pg_tupB ⟨P, w, K⟩ rfl 2 rfl (pgs_cons (pg_name (i := 11) sc_law_room_steps.nd rfl (Or.inl rfl)) (pgs_cons (pg_name (i := 12) sc_law_room_steps.nd rfl (Or.inl rfl)) pgs_nil)))) (fun _ _ _ _ _ => pts_nil) (fun _ _ _ _ _ => (pe_tup (pa_cons (pe_ix (ix_B ⟨P, w, K⟩ rfl hu) (pv 11) pe_int (fun _ _ => rfl)) (pa_cons (pe_ix (ix_B ⟨P, w, K⟩ rfl hu) (pv 11) pe_int (fun _ _ => rfl)) (pa_cons (pe_ix (ix_B ⟨P, w, K⟩ rfl hu) (pv 11) pe_int (fun _ _ => rfl)) (pa_cons (pv 12) pa_nil)))))))))))), ?_⟩
    refine run_M (n := 8) fh fm hm hd rfl q ?_
    dsimp only [cxOf]
    refine es_seq ?_
    refine es_parO (by decide) ?_
    refine ea_cons (ev_coin ?_)
    walk_at "e"
    refine ⟨_, us, n, 6, rfl, rfl, hmint, by omega, by decide, small (by decide), fun us1 way hm1 hw1 hw2 => ?_⟩
    refine ⟨_, Pu.d, ?_⟩
    refine ea_consK ?_
    refine ev_newN k3e T.int fun p => ?_
    refine ⟨_, _, rfl, ?_⟩
    walk_at "e"
    refine ⟨_, _, _, rfl, ?_⟩
    refine es_seqJ (fun δ => ∃ (us2 : OW) (mm : List (K3 × Int)) (p : Addr) (x1 x2 x3 x4 x5 x6 : SV), Mint (n + 18) us2 ∧ GoodML count lines words mm ∧ (one = true → ∀ p ∈ mm, p.1.1 = sgW way) ∧ mm.length ≤ 3 ∧ δ = [.arg m us2, .d (.int count), .d (.lst (lines.map .str)), .d (.lst (words.map .str)), .d (.bl one), .d (.int way), .own p (.N k3e T.int mm), x1, x2, x3, x4, x5, x6]) ?_ ?_
    · refine es_forI (ei_R (ea_cons (EV.imp (P := fun δ r => ∃ (us2 : OW) (cnt : Nat), Mint (n + 2) us2 ∧ cnt ≤ 3 ∧ r = .d (.int cnt) ∧ δ = [.arg m us2, .d (.int count), .d (.lst (lines.map .str)), .d (.lst (words.map .str)), .d (.bl one), .d (.int way), .own p (.N k3e T.int []), .no, .no, .no, .no, .no, .no]) ?_ ?_)))
      · walk_at "d"
        refine ite2 (fun h => ?_) (fun h => ?_)
        · walk_at "d"
          exact ⟨us1, 0, hm1.mono (by omega), by omega, rfl, rfl⟩
        · walk_at "d"
          refine ev_coin ?_
          walk_at "d"
          refine ⟨_, us1, n + 1, 3, rfl, rfl, hm1, by omega, by decide, small (by decide), fun us2 r hm2 hr1 hr2 => ?_⟩
          walk_at "d"
          exact ⟨us2, (1 + r).toNat, hm2, by omega, by rw [Int.toNat_of_nonneg (by omega)], rfl⟩
      · rintro δ r ⟨us2, cnt, hm2, hcnt, rfl, rfl⟩
        walk_at "d"
        refine ⟨by omega, fun i δ => ∃ (us2 : OW) (mm : List (K3 × Int)) (x1 x2 x3 x4 x5 x6 : SV), Mint (n + 3 + 5 * i) us2 ∧ GoodML count lines words mm ∧ (one = true → ∀ p ∈ mm, p.1.1 = sgW way) ∧ mm.length ≤ i ∧ δ = [.arg m us2, .d (.int count), .d (.lst (lines.map .str)), .d (.lst (words.map .str)), .d (.bl one), .d (.int way), .own p (.N k3e T.int mm), x1, x2, x3, x4, x5, x6], ⟨us2, [], _, _, _, _, _, _, hm2.mono (by omega), ⟨⟨.nil, fun _ h => nomatch h⟩, fun _ h => nomatch h⟩, (fun _ _ h => nomatch h), by simp, rfl⟩, fun _ _ _ => trivial, ?_, ?_⟩
        · rintro i t δ ht ⟨us3, mm, x1, x2, x3, x4, x5, x6, hm3, hg, hsg1, hl, rfl⟩
          have hi : i < cnt := by
            have := (List.getElem?_eq_some_iff.mp ht).1
            simpa using this
          walk_at "d"
          refine ⟨[.str "!", .str "?"], rfl, (show 2 ≤ sizeLine by decide), fun p1 => ?_⟩
          refine ⟨_, Pu.fr, ?_⟩
          refine EV.imp (P := fun δ r => ∃ (us4 : OW) (ix : Nat), Mint (n + 3 + 5 * i + 2) us4 ∧ ix < 2 ∧ (one = true → Builtin.bitAnd way 1 = ix) ∧ r = .d (.int ix) ∧ δ = [.arg m us4, .d (.int count), .d (.lst (lines.map .str)), .d (.lst (words.map .str)), .d (.bl one), .d (.int way), .own p (.N k3e T.int mm), .d t, x2, x3, x4, x5, x6]) ?_ ?_
          · refine ev_ifx (et_or ?_)
            refine et_truth ?_
            walk_at "d"
            refine ⟨one, .bl _, ?_⟩
            have hand : ∃ ix : Nat, Builtin.bitAnd way 1 = ix ∧ ix < 2 := by
              have : way = 0 ∨ way = 1 ∨ way = 2 ∨ way = 3 ∨ way = 4 ∨ way = 5 := by omega
              rcases this with h | h | h | h | h | h <;> subst h <;> first | exact ⟨0, by decide, by decide⟩ | exact ⟨1, by decide, by decide⟩
            obtain ⟨ix, hix, hix2⟩ := hand
            refine ite2 (fun h => ?_) (fun h => ?_)
            · refine ite2 (fun h => ?_) (fun h => absurd rfl h)
              walk_at "d"
              refine o2_I0 (t := .int (Builtin.bitAnd way 1)) rfl ?_
              rw [hix]
              exact ⟨us3, ix, hm3.mono (by omega), hix2, fun _ => rfl, rfl, rfl⟩
            · have h1f : ¬ one = true := h
              walk_at "d"
              refine ev_coin ?_
              walk_at "d"
              refine ⟨_, us3, n + 3 + 5 * i, 2, rfl, rfl, hm3, by omega, by decide, small (by decide), fun us4 r hm4 hr1 hr2 => ?_⟩
              walk_at "d"
              refine o2_eq (t := .int r) (u := .int 0) (d := .int r) (e := .int 0) (b := r == 0) rfl rfl rfl rfl rfl ?_
              refine ⟨_, rfl, ite2 (fun h => ?_) (fun h => ?_)⟩
              · walk_at "d"
                refine o2_I0 (t := .int (Builtin.bitAnd way 1)) rfl ?_
                rw [hix]
                exact ⟨us4, ix, hm4.mono (by omega), hix2, fun _ => rfl, rfl, rfl⟩
              · refine ev_coin ?_
                walk_at "d"
                refine ⟨_, us4, n + 3 + 5 * i + 1, 2, rfl, rfl, hm4, by omega, by decide, small (by decide), fun us5 r2 hm5 hr3 hr4 => ?_⟩
                exact ⟨us5, r2.toNat, hm5, by omega, (fun e => absurd e h1f), by rw [Int.toNat_of_nonneg hr3], rfl⟩
          · rintro δ r ⟨us4, ix, hm4, hix, hixO, rfl, rfl⟩
            walk_at "d"
            have hsg : ∃ sg : Str, atI [T.str "!", T.str "?"] (ix : Int) = some (.str sg) ∧ (sg = "!" ∨ sg = "?") ∧ (one = true → sg = sgW way) := by
              have : ix = 0 ∨ ix = 1 := by omega
              rcases this with h | h <;> subst h
              · exact ⟨"!", rfl, .inl rfl, fun o => by unfold sgW; rw [hixO o]; rfl⟩
              · exact ⟨"?", rfl, .inr rfl, fun o => by unfold sgW; rw [hixO o]; rfl⟩
            obtain ⟨sg, hsg, hsg2, hsgO⟩ := hsg
            refine uix_L LstV.d hsg ?_
            walk_at "d"
            refine ev_coin ?_
            walk_at "d"
            have hll : 0 < lines.length := List.length_pos_iff.mpr hl0
            have hwl : 0 < words.length := List.length_pos_iff.mpr hw0
            refine ⟨_, us4, n + 3 + 5 * i + 2, (lines.map T.str).length, rfl, rfl, hm4, by omega, by rw [List.length_map]; omega, small (by rw [List.length_map]; omega), fun us5 r2 hm5 hr3 hr4 => ?_⟩
            rw [List.length_map] at hr4
            walk_at "d"
            obtain ⟨r2, rfl⟩ := Int.eq_ofNat_of_zero_le hr3
            have hr4' : r2 < lines.length := by omega
            refine uix_L LstV.d (t := .str lines[r2]) (atI_nat (by simp [hr4'])) ?_
            walk_at "d"
            refine ev_coin ?_
            walk_at "d"
            refine ⟨_, us5, n + 3 + 5 * i + 3, (words.map T.str).length, rfl, rfl, hm5, by omega, by rw [List.length_map]; omega, small (by rw [List.length_map]; omega), fun us6 r3 hm6 hr5 hr6 => ?_⟩
            rw [List.length_map] at hr6
            walk_at "d"
            obtain ⟨r3, rfl⟩ := Int.eq_ofNat_of_zero_le hr5
            have hr6' : r3 < words.length := by omega
            refine uix_L LstV.d (t := .str words[r3]) (atI_nat (by simp [hr6'])) ?_
            walk_at "d"
            refine ⟨_, _, rfl, ?_⟩
            walk_at "d"
            refine ev_coin ?_
            walk_at "d"
            refine ⟨_, us6, n + 3 + 5 * i + 4, count, rfl, rfl, hm6, by omega, by omega, small (by omega), fun us7 r4 hm7 hr7 hr8 => ?_⟩
            walk_at "d"
            refine ⟨[.str sg, .str lines[r2], .str words[r3]], rfl, (show 3 ≤ sizeLine by decide), _, Pu.d, ?_⟩
            refine o3_N (ke := k3e) (ev := T.int) (k := (sg, lines[r2], words[r3])) (x := r4) (m := mm) 6 rfl (Nat.lt_of_le_of_lt (show mm.length ≤ 3 by omega) (by decide)) ?_
            have hlen := putM_len mm (sg, lines[r2], words[r3]) r4
            exact ⟨us7, putM mm (sg, lines[r2], words[r3]) r4, _, _, _, _, _, _, hm7.mono (by omega), hg.put hsg2 (hln _ (List.getElem_mem hr4')) (hwn _ (List.getElem_mem hr6')) hr7 (by omega) (List.getElem_mem hr4') (List.getElem_mem hr6'), (fun o p hp => (putM_mem hp).elim (hsg1 o p) fun e => by subst e; exact hsgO o), by omega, rfl⟩
        · rintro δ ⟨us3, mm, x1, x2, x3, x4, x5, x6, hm3, hg, hsg1, hl, rfl⟩
          rw [List.length_map, List.length_range] at hm3 hl
          exact ⟨us3, mm, p, x1, x2, x3, x4, x5, x6, hm3.mono (by omega), hg, hsg1, by omega, rfl⟩
    · rintro δ ⟨us2, mm, p, x1, x2, x3, x4, x5, x6, hm2, hg, hsg1, hl, rfl⟩
      walk_at "d"
      refine ev_lock 6 rfl fun ob es => ?_
      refine ev_lcI (ei_itemsN ?_)
      walk_at "d"
      have e : pairT (mm.map fun p => k3e.ek p.1) (mm.map fun p => T.int p.2) = mm.map fun p => .tup [eK p.1, .int p.2] := pairT_map _ _ mm
      refine ⟨p, ob, es, _, _, rfl, ⟨6, .inl rfl⟩, by rw [e, List.length_map]; exact Nat.le_trans hl (by decide), fun i acc δ => acc = ((mm.take i).map mkS).map eS ∧ δ = [.arg m us2, .d (.int count), .d (.lst (lines.map .str)), .d (.lst (words.map .str)), .d (.bl one), .d (.int way), .own p (.lk ob es (mm.map fun p => k3e.ek p.1) (mm.map fun p => T.int p.2)), x1, x2, x3, x4, .no, .no], ⟨by simp, rfl⟩, ?_, ?_, ?_⟩
      · rintro i acc δ ⟨_, rfl⟩; exact ⟨6, .inl rfl⟩
      · rintro i t acc δ ht _ ⟨rfl, rfl⟩
        rw [e, List.getElem?_map] at ht
        obtain ⟨⟨⟨k1, k2, k3⟩, g⟩, hp, rfl⟩ := Option.map_eq_some_iff.mp ht
        unfold eK
        walk_at "d"
        refine ite2 (fun _ => ?_) (fun h => nomatch h)
        walk_at "d"
        refine ⟨[.str k1, .str k2, .str k3, .int g], rfl, (show 4 ≤ sizeLine by decide), ?_⟩
        walk_at "d"
        refine ⟨?_, rfl⟩
        rw [List.take_add_one, hp]; simp [mkS, eS]
      · rintro acc δ _ ⟨rfl, rfl⟩ p'
        rw [e, List.length_map, List.take_length]
        refine ⟨rfl, ?_⟩
        refine ⟨us2, rfl, hk us2 (mm.map mkS) (hm2.mono (by omega)) ⟨?_, ?_, ?_⟩ (by rw [List.length_map]; exact hl) (fun s hs => by obtain ⟨z, hz, rfl⟩ := List.mem_map.mp hs; exact hg.2 z hz) (fun o a ha b hb => by
          obtain ⟨z, hz, rfl⟩ := List.mem_map.mp ha
          obtain ⟨y, hy, rfl⟩ := List.mem_map.mp hb
          exact (hsg1 o z hz).trans (hsg1 o y hy).symm)⟩
        · rw [List.length_map]; exact Nat.lt_of_le_of_lt hl (by decide)
        · intro st hst
          obtain ⟨z, hz, rfl⟩ := List.mem_map.mp hst
          obtain ⟨h1, h2, h3, h4, h5⟩ := hg.1.2 z hz
          exact ⟨h1, h2, h3, h4, h5⟩
        · rw [List.map_map]; exact hg.1.1
def SPlanOfL : OW → List T → (OW → RT → Prop) → Prop := fun us ts P => ∃ (n : Nat) (most : Nat) (lines words : List Str) (one : Bool), n + 3000 < 100000 ∧ Mint n us ∧ 0 < most ∧ most ≤ 100 ∧ lines ≠ [] ∧ words ≠ [] ∧ lines.length ≤ 100 ∧ words.length ≤ 100 ∧ (∀ x ∈ lines, IsName x) ∧ (∀ x ∈ words, IsName x) ∧
  ts = [.int most, .lst (lines.map .str), .lst (words.map .str), .bl one] ∧ ∀ us' (p : Plan), Mint (n + 1 + 20 * most) us' → GoodPlan p → p ≠ [] → p.length ≤ most → (∀ r ∈ p, r.length ≤ 3) → (∀ r ∈ p, ∀ s ∈ r, s.2.1 ∈ lines ∧ s.2.2.1 ∈ words) → (one = true → ∀ r ∈ p, ∀ s ∈ r, ∀ t ∈ r, s.1 = t.1) → P us' (.new (.lst (p.map eRoom)))
theorem okL_plan_of {f : Addr} {fd : FuncData} (Fn : Fun K "_law_plan_of" "_law_plan_of" s_law_plan_of f fd) (TX : TXF mg) (C_law_coin : Cal P w K mg base CX0 "_law_coin" 1 ["mint", "many"] (spM ⟨P, w, K⟩ SCoin)) (C_law_room_steps : Cal P w K mg base CX0 "_law_room_steps" 2 ["mint", "count", "lines_here", "words_here", "one_sign"] (spM ⟨P, w, K⟩ SRoomStepsL)) : FnOk P w K mg base CX0 3 f fd ["mint", "most", "lines_here", "words_here", "one_sign"] (spM ⟨P, w, K⟩ SPlanOfL) := by
  refine Fn.ok sc_law_plan_of (fun vs H Q E h => ?_) (fun cdv A outer s H vs Q E hr h => ?_)
  · obtain ⟨F, m, ws, us, ts, rfl, _, _, _, hd, P, ⟨_, _, _, _, _, _, _, _, _, _, _, _, _, _, _, rfl, _⟩, _⟩ := h
    rw [List.length_cons, hd.length]; rfl
  · obtain ⟨F, m, ws, us, ts, rfl, fh, fm, hm, hd, PP, ⟨n, most, lines, words, one, hn, hmint, hc0, hc1, hl0, hw0, hl1, hw1, hln, hwn, rfl, hk⟩, q⟩ := h
    have hu := hr.units
    refine ⟨_, (pss_cons (ps_set (i := 5) sc_law_plan_of.nd rfl (Or.inr rfl) (pe_op (op_addB ⟨P, w, K⟩ rfl) pe_int (pe_call C_law_coin.ok (hr.mono (by decide)) (by rfl) C_law_coin.mg C_law_coin.kp C_law_coin.bd .nil pass0 (pa_cons (pv 0) (pa_cons (pv 1) pa_nil)))))
    (pss_one (ps_ret (pe_lc (own := [("turn", 6)]) (by rfl) sc_law_plan_of.nd (pi_range1 (by rfl) TX.n_range (pa_cons (pv 5) pa_nil)) (blkOk_by (N := N_law_plan_of) (sc := defScope s_law_plan_of) (by decide +kernel)) (fun _ _ _ _ _ => (pg_name (i := 6) sc_law_plan_of.nd rfl (Or.inl rfl))) (fun _ _ _ _ _ => pts_nil) (fun _ _ _ _ _ => (pe_call C_law_room_steps.ok (hr.mono (by decide)) (by rfl) C_law_room_steps.mg C_law_room_steps.kp C_law_room_steps.bd .nil pass0 (pa_cons (pv 0) (pa_cons (pv 5) (pa_cons (pv 2) (pa_cons (pv 3) (pa_cons (pv 4) pa_nil))))))))))), ?_⟩
    refine run_M (n := 2) fh fm hm hd rfl q ?_
    dsimp only [cxOf]
    walk_at "d"
    refine ev_coin ?_
    walk_at "d"
    refine ⟨_, us, n, most, rfl, rfl, hmint, by omega, by omega, small (by omega), fun us1 r hm1 hr1 hr2 => ?_⟩
    walk_at "d"
    obtain ⟨r, rfl⟩ := Int.eq_ofNat_of_zero_le hr1
    have hr2' : r < most := by omega
    refine ev_lcI (ei_R (ea_cons (ev_var (by rfl) ⟨_, Pu.d, ea_nil ?_⟩)))
    refine ⟨1 + r, rfl, by omega, by rw [List.length_map, List.length_range]; exact Nat.le_trans (show 1 + r ≤ 100 by omega) (by decide), fun i acc δ => ∃ (us2 : OW) (q : Plan), Mint (n + 1 + 20 * i) us2 ∧ acc = q.map eRoom ∧ q.length = i ∧ (∀ x ∈ q, GoodRoom (1 + r) x ∧ x.length ≤ 3 ∧ (∀ s ∈ x, s.2.1 ∈ lines ∧ s.2.2.1 ∈ words) ∧ (one = true → ∀ s ∈ x, ∀ t ∈ x, s.1 = t.1)) ∧ δ = [.arg m us2, .d (.int most), .d (.lst (lines.map .str)), .d (.lst (words.map .str)), .d (.bl one), .d (.int (1 + r : Nat)), .no], ⟨us1, [], hm1, rfl, rfl, (fun _ h => nomatch h), rfl⟩, fun _ _ _ _ => trivial, ?_, ?_⟩
    · rintro i t acc δ ht _ ⟨us2, qq, hm2, rfl, hlen, hgood, rfl⟩
      have hi : i < 1 + r := by
        have := (List.getElem?_eq_some_iff.mp ht).1
        simpa using this
      walk_at "d"
      refine ite2 (fun _ => ?_) (fun h => nomatch h)
      refine ev_callM ?_
      walk_at "d"
      refine ⟨_, [.int (1 + r : Nat), .lst (lines.map .str), .lst (words.map .str), .bl one], rfl, 0, us2, fun us' z => ∃ rm : Room, Mint (n + 1 + 20 * i + 20) us' ∧ GoodRoom (1 + r) rm ∧ rm.length ≤ 3 ∧ (∀ s ∈ rm, s.2.1 ∈ lines ∧ s.2.2.1 ∈ words) ∧ (one = true → ∀ s ∈ rm, ∀ t ∈ rm, s.1 = t.1) ∧ z = .new (.lst (rm.map eS)), ⟨n + 1 + 20 * i, 1 + r, lines, words, one, by omega, hm2, by omega, by omega, hl0, hw0, hl1, hw1, hln, hwn, rfl, fun us' rm h1 h2 h3 h4 h5 => ⟨rm, h1, h2, h3, h4, h5, rfl⟩⟩, .inr ⟨rfl, ?_⟩⟩
      rintro us' _ ⟨rm, h1, h2, h3, h4, h5, rfl⟩ a'
      refine ⟨_, Pu.fr, us', qq ++ [rm], h1.mono (by omega), by rw [List.map_append]; rfl, by rw [List.length_append, hlen]; rfl, fun x hx => ?_, rfl⟩
      rcases List.mem_append.mp hx with hx | hx
      · exact hgood x hx
      · rw [List.mem_singleton] at hx; subst hx; exact ⟨h2, h3, h4, h5⟩
    · rintro acc δ _ ⟨us2, qq, hm2, rfl, hlen, hgood, rfl⟩ p'
      rw [List.length_map, List.length_range] at hm2 hlen
      refine ⟨us2, rfl, hk us2 qq (hm2.mono (by omega)) ⟨?_, fun x hx => ?_⟩ ?_ (by omega) (fun x hx => (hgood x hx).2.1) (fun x hx => (hgood x hx).2.2.1) fun o x hx => (hgood x hx).2.2.2 o⟩
      · rw [hlen]; exact Nat.lt_of_le_of_lt (show 1 + r ≤ 100 by omega) (by decide)
      · rw [hlen]; exact (hgood x hx).1
      · intro e; rw [e] at hlen; simp at hlen; omega
end
end K

namespace K
open PySem L2 DL
/-! ### where a row leads -/
def runI (p : Plan) : Int → List K3 → Option Int
  | i, [] => some i
  | i, k :: ks => (getM (ways (rm p i)) k).bind fun j => runI p j ks
theorem runI_snoc (p : Plan) (k : K3) : ∀ (ks : List K3) (i : Int), runI p i (ks ++ [k]) = (runI p i ks).bind fun j => getM (ways (rm p j)) k
  | [], i => by
    show ((getM (ways (rm p i)) k).bind fun j => some j) = getM (ways (rm p i)) k
    cases getM (ways (rm p i)) k <;> rfl
  | x :: ks, i => by
    rw [List.cons_append, runI, runI]
    cases getM (ways (rm p i)) x with
    | none => rfl
    | some j => exact runI_snoc p k ks j
/-- an index of a room -/
def Inr (p : Plan) (i : Int) : Prop := 0 ≤ i ∧ i < p.length
theorem runI_inr {p : Plan} (ht : Tgt p) (hn : NodK p) : ∀ {ks : List K3} {i j : Int}, Inr p i → runI p i ks = some j → Inr p j
  | [], i, j, hi, h => by cases h; exact hi
  | k :: ks, i, j, hi, h => by
    rw [runI] at h
    obtain ⟨x, hx, h⟩ := Option.bind_eq_some_iff.mp h
    obtain ⟨s, hs, _, e⟩ := (way_iff (hn _ (rm_mem hi.1 hi.2)) k x).mp hx
    have := ht _ (rm_mem hi.1 hi.2) s hs
    rw [e] at this
    exact runI_inr ht hn this h
theorem goRow_runI {p : Plan} (ht : Tgt p) (hn : NodK p) : ∀ (ks : List K3) {i : Int}, Inr p i → goRow p i.toNat ks = (runI p i ks).isSome
  | [], i, hi => rfl
  | k :: ks, i, hi => by
    rw [goRow_cons, rm_get hi.1 hi.2, runI]
    show (match getM (ways (rm p i)) k with | none => false | some j => goRow p j.toNat ks) = _
    cases e : getM (ways (rm p i)) k with
    | none => rfl
    | some j =>
      obtain ⟨s, hs, _, e2⟩ := (way_iff (hn _ (rm_mem hi.1 hi.2)) k j).mp e
      have := ht _ (rm_mem hi.1 hi.2) s hs
      rw [e2] at this
      exact goRow_runI ht hn ks this
/-- rooms that alike rows lead to have alike steps -/
theorem Same.at {p q : Plan} (hp : Tgt p) (np : NodK p) (hq : Tgt q) (nq : NodK q) (p0 : p ≠ []) (q0 : q ≠ []) (h : Same q 0 p 0) (ks : List K3) :
    ((runI q 0 ks).isSome = (runI p 0 ks).isSome) ∧ ∀ i j, runI q 0 ks = some i → runI p 0 ks = some j → ∀ k, (getM (ways (rm q i)) k).isSome = (getM (ways (rm p j)) k).isSome := by
  have ip : Inr p 0 := ⟨Int.le_refl 0, by have := List.length_pos_iff.mpr p0; omega⟩
  have iq : Inr q 0 := ⟨Int.le_refl 0, by have := List.length_pos_iff.mpr q0; omega⟩
  have key : ∀ ks, (runI q 0 ks).isSome = (runI p 0 ks).isSome := fun ks => by
    have e := h ks
    rw [← goRow_runI hp np ks ip, ← goRow_runI hq nq ks iq]
    exact e
  refine ⟨key ks, fun i j hi hj k => ?_⟩
  have := key (ks ++ [k])
  rw [runI_snoc, runI_snoc, hi, hj] at this
  exact this
theorem rm_nod {p : Plan} (hn : NodK p) (i : Int) : ((rm p i).map kyOf).Nodup := by
  unfold rm
  cases e : p[i.toNat]? with
  | none => exact .nil
  | some r => exact hn r (List.mem_of_getElem? e)
end K

namespace K
open PySem L2 DL
/-! ### talks tried, one length after the other -/
theorem klt_ordM : BF.Ord klt where
  irr := fun k h => klt_asymm k k h h
  tr := fun a b c h h' => PyProof.Rows.lex_trans _ _ _ h h'
  tot := fun a b => by
    by_cases e : a = b
    · exact .inr (.inl e)
    · by_cases h : klt b a
      · exact .inr (.inr h)
      · exact .inl (klt_total e h)
abbrev Ent := List K3 × (Int × Int)
def eEnt (e : Ent) : T := .tup [.lst (e.1.map eK), .int e.2.1, .int e.2.2]
def dEnt (e : Ent) : PyData := .tuple [.list (e.1.map dK), .int e.2.1, .int e.2.2]
theorem eEnt_py (e : Ent) : (eEnt e).py = some (dEnt e) := by simp [eEnt, dEnt, T.py, T.pys, pys_map eK_py]
theorem dEnt_depth (e : Ent) : (dEnt e).depth ≤ 64 := by
  have := all_depth (d := dK) (n := 1) (xs := e.1) fun x _ => by rw [dK_depth]; decide
  simp only [dEnt, PyData.depth, PyData.depthAll]
  omega
theorem alike_K : ∀ xs ys : List K3, PySem.W.alikeAll (xs.map dK) (ys.map dK) = true
  | [], _ => by simp [PySem.W.alikeAll]
  | _ :: _, [] => by simp [PySem.W.alikeAll]
  | x :: xs, y :: ys => by
    rw [List.map_cons, List.map_cons, PySem.W.alikeAll, alike_K xs ys]
    simp [PySem.W.alike, PySem.W.alikeAll, dK]
theorem alike_Ent (a b : Ent) : PySem.W.alike (dEnt a) (dEnt b) = true := by
  simp [dEnt, PySem.W.alike, PySem.W.alikeAll, alike_K]
def pre : List K3 → List (Int ⊕ List Nat)
  | [] => []
  | k :: ks => .inl 1 :: (toks (dK k) ++ pre ks)
theorem pre_app : ∀ xs ys : List K3, pre (xs ++ ys) = pre xs ++ pre ys
  | [], _ => rfl
  | x :: xs, ys => by rw [List.cons_append, pre, pre, pre_app xs ys, List.cons_append, List.append_assoc]
theorem toks_list : ∀ xs : List K3, PySem.W.keyToksAll (xs.map dK) = pre xs ++ [.inl 0]
  | [] => by simp [PySem.W.keyToksAll, pre]
  | x :: xs => by
    rw [List.map_cons, PySem.W.keyToksAll, toks_list xs, pre, List.cons_append, List.append_assoc]; rfl
theorem lt_more {a b : K3} (h : klt a b) (l m : List (Int ⊕ List Nat)) : PyProof.Rows.lexLt PyProof.Rows.itemOrd (toks (dK a) ++ l) (toks (dK b) ++ m) = true := by
  have ne : PyData.eqv (dK a) (dK b) = false := by
    rw [dK_eqv]
    exact decide_eq_false fun e => by subst e; exact klt_asymm _ _ h h
  have := (PySem.W.toks_eqv (dK a) (dK b) (by simp [PySem.W.alike, PySem.W.alikeAll, dK])).2 ne l m
  exact this.trans h
theorem lx_pre : ∀ {a b : List K3}, a.length = b.length → BF.lx klt a b → ∀ l m, PyProof.Rows.lexLt PyProof.Rows.itemOrd (pre a.reverse ++ l) (pre b.reverse ++ m) = true
  | [], _, _, h, _, _ => h.elim
  | _ :: _, [], _, h, _, _ => h.elim
  | x :: a, y :: b, hl, h, l, m => by
    rw [List.reverse_cons, List.reverse_cons, pre_app, pre_app, List.append_assoc, List.append_assoc]
    rcases h with h | ⟨rfl, h⟩
    · exact lx_pre (by simpa using hl) h _ _
    · rw [PySem.W.lex_pre]
      show PyProof.Rows.lexLt PyProof.Rows.itemOrd (.inl 1 :: (toks (dK x) ++ pre []) ++ l) (.inl 1 :: (toks (dK y) ++ pre []) ++ m) = true
      rw [List.cons_append, List.cons_append, PyProof.Rows.lex_self, List.append_assoc, List.append_assoc]
      exact lt_more h _ _
theorem ent_lt {a b : Ent} (hl : a.1.length = b.1.length) (h : BF.lx klt a.1.reverse b.1.reverse) : PyProof.Rows.lexLt PyProof.Rows.itemOrd (toks (dEnt a)) (toks (dEnt b)) = true := by
  have e : ∀ z : Ent, toks (dEnt z) = .inl 1 :: (pre z.1 ++ ([.inl 0] ++ PySem.W.keyToksAll [.int z.2.1, .int z.2.2])) := fun z => by
    show PySem.W.keyToks (.tuple _) = _
    rw [PySem.W.keyToks, PySem.W.keyToksAll, PySem.W.keyToks, toks_list, List.append_assoc]
  rw [e, e, PyProof.Rows.lex_self]
  have := lx_pre (a := a.1.reverse) (b := b.1.reverse) (by simpa using hl) h ([.inl 0] ++ PySem.W.keyToksAll [.int a.2.1, .int a.2.2]) ([.inl 0] ++ PySem.W.keyToksAll [.int b.2.1, .int b.2.2])
  rw [List.reverse_reverse, List.reverse_reverse] at this
  exact this
def sortE (es : List Ent) : List Ent := es.mergeSort fun a b => PySem.W.dataLe false dEnt a b
theorem sortE_perm (es : List Ent) : (sortE es).Perm es := List.mergeSort_perm _ _
/-- of sorted entries of one length, none behind is less -/
theorem sortE_le {es : List Ent} {n : Nat} (hn : ∀ e ∈ es, e.1.length = n) : (sortE es).Pairwise fun a b => ¬ BF.sl klt b.1 a.1 := by
  refine (List.Pairwise.and_mem.mp (sorted_pair dEnt es)).imp ?_
  rintro a b ⟨ha, hb, h⟩ hs
  have la := hn a ((sortE_perm es).mem_iff.mp ha)
  have lb := hn b ((sortE_perm es).mem_iff.mp hb)
  rcases hs with hs | ⟨_, hs⟩
  · omega
  · have := le_lt h
    rw [ent_lt (by rw [la, lb]) hs] at this
    cases this
/-! the rows that both plans have, and where they lead -/
def PRun (p1 p2 : Plan) (r : List K3) (d : Int × Int) : Prop := runI p1 0 r = some d.1 ∧ runI p2 0 r = some d.2
theorem PRun.snoc {p1 p2 : Plan} {r : List K3} {k : K3} {d : Int × Int} : PRun p1 p2 (r ++ [k]) d ↔ ∃ c, PRun p1 p2 r c ∧ getM (ways (rm p1 c.1)) k = some d.1 ∧ getM (ways (rm p2 c.2)) k = some d.2 := by
  unfold PRun
  rw [runI_snoc, runI_snoc]
  constructor
  · rintro ⟨h1, h2⟩
    obtain ⟨a, ha, ha2⟩ := Option.bind_eq_some_iff.mp h1
    obtain ⟨b, hb, hb2⟩ := Option.bind_eq_some_iff.mp h2
    exact ⟨(a, b), ⟨ha, hb⟩, ha2, hb2⟩
  · rintro ⟨c, ⟨h1, h2⟩, h3, h4⟩
    rw [h1, h2]
    exact ⟨h3, h4⟩
theorem PRun.uniq {p1 p2 : Plan} {r : List K3} {c d : Int × Int} (h : PRun p1 p2 r c) (h' : PRun p1 p2 r d) : c = d := by
  obtain ⟨a, b⟩ := h
  obtain ⟨a', b'⟩ := h'
  rw [a] at a'; rw [b] at b'
  exact Prod.ext (Option.some.inj a') (Option.some.inj b')
/-- what is told where talks are tried: good, a pair of rooms that stand -/
def Tried (p1 p2 : Plan) (good : Int × Int → Prop) (n : Nat) : Option (List K3) → Prop
  | some r => r.length < n ∧ (∃ d, PRun p1 p2 r d ∧ ¬ good d) ∧ ∀ r' d, PRun p1 p2 r' d → ¬ good d → ¬ BF.sl klt r' r
  | none => ∀ r d, r.length < n → PRun p1 p2 r d → good d
/-- all rows of length n, where all shorter ones lead to good pairs -/
structure Front (p1 p2 : Plan) (good : Int × Int → Prop) (n : Nat) (es : List Ent) : Prop where
  run : ∀ e ∈ es, e.1.length = n ∧ PRun p1 p2 e.1 e.2
  all : ∀ r d, r.length = n → PRun p1 p2 r d → (r, d) ∈ es
  low : ∀ r d, r.length < n → PRun p1 p2 r d → good d
theorem Front.start (p1 p2 : Plan) (good : Int × Int → Prop) : Front p1 p2 good 0 [([], 0, 0)] where
  run := fun e he => by rw [List.mem_singleton.mp he]; exact ⟨rfl, rfl, rfl⟩
  all := fun r ⟨d1, d2⟩ hr h => by
    obtain rfl := List.length_eq_zero_iff.mp hr
    obtain ⟨h1, h2⟩ := h
    have h1 : some (0 : Int) = some d1 := h1
    have h2 : some (0 : Int) = some d2 := h2
    have e1 : (0 : Int) = d1 := Option.some.inj h1
    have e2 : (0 : Int) = d2 := Option.some.inj h2
    rw [← e1, ← e2]
    exact List.mem_cons_self
  low := fun r d h => by omega
theorem Front.found {p1 p2 : Plan} {good : Int × Int → Prop} {n j : Nat} {es : List Ent} {e : Ent} (h : Front p1 p2 good n es) (hj : (sortE es)[j]? = some e) (hlow : ∀ i x, i < j → (sortE es)[i]? = some x → good x.2) (hb : ¬ good e.2) {m : Nat} (hm : n < m) : Tried p1 p2 good m (some e.1) := by
  have hmm := (sortE_perm es).mem_iff.mp (List.mem_of_getElem? hj)
  obtain ⟨hl, hr⟩ := h.run e hmm
  refine ⟨by rw [hl]; exact hm, ⟨e.2, hr, hb⟩, fun r' d hr' hd hs => ?_⟩
  rcases Nat.lt_trichotomy r'.length n with z | z | z
  · exact hd (h.low r' d z hr')
  · obtain ⟨i, hi⟩ := List.mem_iff_getElem?.mp ((sortE_perm es).mem_iff.mpr (h.all r' d z hr'))
    rcases Nat.lt_trichotomy i j with y | y | y
    · exact hd (hlow i _ y hi)
    · subst y
      rw [hj] at hi; cases hi
      exact BF.sl_irr klt_ordM _ hs
    · have := sortE_le fun e he => (h.run e he).1
      rw [List.pairwise_iff_getElem] at this
      obtain ⟨hil, e1⟩ := List.getElem?_eq_some_iff.mp hi
      obtain ⟨hjl, e2⟩ := List.getElem?_eq_some_iff.mp hj
      have := this j i hjl hil y
      rw [e1, e2] at this
      exact this hs
  · rcases hs with hs | ⟨hs, _⟩
    · omega
    · omega
end K

namespace K
open PySem L2 DL
section
variable {P : Program} {w : World} {K : PySem.W.Frag} {mg : Str → Option Value} {base : Heap}
/-! ### rooms that stand, as the laws tell it -/
def signL : Room → Str
  | [] => " "
  | s :: _ => s.1
/-- a sign as it is told of a room -/
def SgnL (x : Str) : Prop := x = "!" ∨ x = "?" ∨ x = " "
theorem SgnL.sh {x : Str} (h : SgnL x) : SeqAt.shaped (.str x) = true := by
  rcases h with rfl | rfl | rfl <;> decide +kernel
theorem signL_ok {n : Int} {r : Room} (h : ∀ s ∈ r, GoodStep n s) : SgnL (signL r) := by
  cases r with
  | nil => exact .inr (.inr rfl)
  | cons s r => rcases (h s List.mem_cons_self).1 with e | e; exact .inl e; exact .inr (.inl e)
theorem str_eqvL (a b : Str) : PyData.eqv (.str a) (.str b) = decide (a = b) := by
  rw [PyData.eqv]
  first | rfl | simp
theorem eRoom_shapedL {r : Room} (h : ∀ s ∈ r, okS s) : SeqAt.shaped (dRoom r) = true := shaped_of (dRoom_lay h) (Nat.le_trans (dRoom_depth r) (by decide))
abbrev s_law_sign_of : Stmt := topS 49
abbrev N_law_sign_of : List Str := ["steps_here"]
theorem sc_law_sign_of : FnScope N_law_sign_of ["steps_here"] (defScope s_law_sign_of) := ⟨rfl, rfl, rfl, by decide +kernel, rfl, by decide +kernel, by decide +kernel⟩

def SSignL : List T → (RT → Prop) → Prop := fun ts P => ∃ r : Room, (∀ s ∈ r, okS s) ∧ ts = [eRoom r] ∧ P (.d (.str (signL r)))
theorem ok_law_sign_of {f : Addr} {fd : FuncData} (Fn : Fun K "_law_sign_of" "_law_sign_of" s_law_sign_of f fd) (TX : TXF mg) : FnOk P w K mg base CX0 1 f fd ["steps_here"] (spP ⟨P, w, K⟩ SSignL) := by
  refine Fn.ok sc_law_sign_of (fun vs H Q E h => ?_) (fun cdv A outer s H vs Q E hr h => ?_)
  · obtain ⟨F, ts, _, hd, P, ⟨_, _, rfl, _⟩, _⟩ := h
    rw [hd.length]; rfl
  · obtain ⟨F, ts, fh, hd, PP, ⟨r, hok, rfl, hk⟩, q⟩ := h
    have hu := hr.units
    refine ⟨_, (pss_one (ps_ret (pe_ifExp (pt_cmpR (op_neB ⟨P, w, K⟩ rfl hu) (pv 0) (pe_lst pa_nil) (nomark _)) (pe_ix (ix_B ⟨P, w, K⟩ rfl hu) (pe_ix (ix_B ⟨P, w, K⟩ rfl hu) (pv 0) pe_int (fun _ _ => rfl)) pe_int (fun _ _ => rfl)) pe_str))), ?_⟩
    refine run_P (n := 0) fh hd rfl q ?_
    dsimp only [cxOf]
    refine es_ret (ev_ifx (et_val (ev_op (ev_var (by rfl) ⟨_, Pu.d, ev_lst (ea_nil ⟨[], rfl, (show 0 ≤ sizeLine by decide), fun p1 => ⟨_, Pu.fr, ?_⟩⟩)⟩))))
    refine o2_ne (t := eRoom r) (u := eRoom []) (eRoom_py _) (eRoom_py []) (eRoom_shapedL hok) (eRoom_shapedL (r := []) fun _ h => nomatch h) (dRoom_eqv _ []) ⟨_, rfl, ?_⟩
    cases r with
    | nil =>
      refine ite2 (fun h => nomatch h) (fun _ => ?_)
      exact ev_str hk
    | cons st r =>
      rw [decide_eq_false (show ¬ (st :: r : Room) = [] by simp)]
      refine ite2 (fun _ => ?_) (fun h => absurd rfl h)
      refine ev_op (ev_op (ev_var (by rfl) ⟨_, Pu.d, ev_int ⟨_, Pu.d, ?_⟩⟩))
      refine uix_L LstV.d (t := eS st) (atI_int (by decide) (by rfl)) ⟨_, Pu.d, ev_int ⟨_, Pu.d, ?_⟩⟩
      exact uix_T (ts := [.str st.1, .str st.2.1, .str st.2.2.1, .int st.2.2.2]) (t := .str st.1) (by rfl) hk
/-- the keys that are not there -/
def lessK (a b : List K3) : List K3 := a.filter fun k => !decide (k ∈ b)
theorem lessK_nil {a b : List K3} : lessK a b = [] ↔ ∀ k ∈ a, k ∈ b := by
  unfold lessK
  rw [List.filter_eq_nil_iff]
  simp
/-- which room leads -/
def fewL (mine its : Room) : List K3 := if signL mine = "?" then keysOf mine else keysOf its
def manyL (mine its : Room) : List K3 := if signL mine = "?" then keysOf its else keysOf mine
def standsL (mine its : Room) : Bool := decide (signL mine = signL its) && decide (lessK (fewL mine its) (manyL mine its) = [])
abbrev s_law_stands : Stmt := topS 50
abbrev N_law_stands : List Str := ["mine", "its", "few", "many", "key"]
theorem sc_law_stands : FnScope N_law_stands ["mine", "its"] (defScope s_law_stands) := ⟨rfl, rfl, rfl, by decide +kernel, rfl, by decide +kernel, by decide +kernel⟩

structure RoomL (r : Room) : Prop where
  z : r.length ≤ 200
  g : ∃ n : Int, ∀ s ∈ r, GoodStep n s
theorem RoomL.ok {r : Room} (h : RoomL r) : ∀ s ∈ r, okS s := fun s hs => by
  obtain ⟨n, g⟩ := h.g
  exact (g s hs).ok
theorem RoomL.sg {r : Room} (h : RoomL r) : SgnL (signL r) := by
  obtain ⟨n, g⟩ := h.g
  exact signL_ok g
def SLStands : List T → (RT → Prop) → Prop := fun ts P => ∃ r t : Room, RoomL r ∧ RoomL t ∧ ts = [eRoom r, eRoom t] ∧ P (.d (.bl (standsL r t)))
theorem lstK_shaped {ks : List K3} (h : ∀ k ∈ ks, okK k) : SeqAt.shaped (.list (ks.map dK)) = true := shaped_of (by rw [PyData.canLay0]; exact all_lay fun k hk => dK_lay (h k hk)) (by rw [PyData.depth]; have := all_depth (d := dK) (n := 1) (xs := ks) (fun k _ => by rw [dK_depth]; decide); omega)
theorem any_K (k : K3) (ks : List K3) : ((ks.map dK).any fun z => PyData.eqv z (dK k)) = decide (k ∈ ks) := by
  rw [List.any_map, Bool.eq_iff_iff, List.any_eq_true, decide_eq_true_eq]
  constructor
  · rintro ⟨x, hx, e⟩
    have e : PyData.eqv (dK x) (dK k) = true := e
    rw [dK_eqv] at e
    rw [← of_decide_eq_true e]; exact hx
  · intro h
    exact ⟨k, h, by show PyData.eqv (dK k) (dK k) = true; rw [dK_eqv]; exact decide_eq_true rfl⟩
theorem ok_law_stands {f : Addr} {fd : FuncData} (Fn : Fun K "_law_stands" "_law_stands" s_law_stands f fd) (TX : TXF mg)
    (C_law_sign_of : Cal P w K mg base CX0 "_law_sign_of" 1 ["steps_here"] (spP ⟨P, w, K⟩ SSignL)) (C_law_keys : Cal P w K mg base CX0 "_law_keys" 1 ["steps_here"] (spP ⟨P, w, K⟩ SKeys)) : FnOk P w K mg base CX0 2 f fd ["mine", "its"] (spP ⟨P, w, K⟩ SLStands) := by
  refine Fn.ok sc_law_stands (fun vs H Q E h => ?_) (fun cdv A outer s H vs Q E hr h => ?_)
  · obtain ⟨F, ts, _, hd, P, ⟨_, _, _, _, rfl, _⟩, _⟩ := h
    rw [hd.length]; rfl
  · obtain ⟨F, ts, fh, hd, PP, ⟨r, t, gr, gt, rfl, hk⟩, q⟩ := h
    have hu := hr.units
    have hu66 := units66 hr
    have hz : (1000 : Nat) < sizeLine := by decide +kernel
    have zr := gr.z
    have zt := gt.z
    unfold standsL at hk
    refine ⟨_, (pss_cons (ps_if (pt_cmpR (op_neB ⟨P, w, K⟩ rfl hu) (pe_call C_law_sign_of.ok (hr.mono (by decide)) (by rfl) C_law_sign_of.mg C_law_sign_of.kp C_law_sign_of.bd .nil pass0 (pa_cons (pv 0) pa_nil)) (pe_call C_law_sign_of.ok (hr.mono (by decide)) (by rfl) C_law_sign_of.mg C_law_sign_of.kp C_law_sign_of.bd .nil pass0 (pa_cons (pv 1) pa_nil)) (nomark _)) (pss_one (ps_ret pe_bl)) pss_nil)
    (pss_cons (ps_asg (pe_ifExp (pt_cmpR (op_eqB ⟨P, w, K⟩ rfl hu) (pe_call C_law_sign_of.ok (hr.mono (by decide)) (by rfl) C_law_sign_of.mg C_law_sign_of.kp C_law_sign_of.bd .nil pass0 (pa_cons (pv 0) pa_nil)) pe_str (nomark _)) (pe_tup (pa_cons (pe_call C_law_keys.ok (hr.mono (by decide)) (by rfl) C_law_keys.mg C_law_keys.kp C_law_keys.bd .nil pass0 (pa_cons (pv 0) pa_nil)) (pa_cons (pe_call C_law_keys.ok (hr.mono (by decide)) (by rfl) C_law_keys.mg C_law_keys.kp C_law_keys.bd .nil pass0 (pa_cons (pv 1) pa_nil)) pa_nil))) (pe_tup (pa_cons (pe_call C_law_keys.ok (hr.mono (by decide)) (by rfl) C_law_keys.mg C_law_keys.kp C_law_keys.bd .nil pass0 (pa_cons (pv 1) pa_nil)) (pa_cons (pe_call C_law_keys.ok (hr.mono (by decide)) (by rfl) C_law_keys.mg C_law_keys.kp C_law_keys.bd .nil pass0 (pa_cons (pv 0) pa_nil)) pa_nil)))) (pg_tupB ⟨P, w, K⟩ rfl 2 rfl (pgs_cons (pg_name (i := 2) sc_law_stands.nd rfl (Or.inl rfl)) (pgs_cons (pg_name (i := 3) sc_law_stands.nd rfl (Or.inr rfl)) pgs_nil))))
    (pss_one (ps_ret (pe_cmpR (op_eqB ⟨P, w, K⟩ rfl hu) (pe_lc (own := [("key", 4)]) (by rfl) sc_law_stands.nd (pi_listB ⟨P, w, K⟩ rfl (pv 2)) (blkOk_by (N := N_law_stands) (sc := defScope s_law_stands) (by decide +kernel)) (fun _ _ _ _ _ => (pg_name (i := 4) sc_law_stands.nd rfl (Or.inl rfl))) (fun _ _ _ _ _ => (pts_one (pt_cmpR (op_notInDB ⟨P, w, K⟩ rfl hu66) (pv 4) (pv 3) (by with_unfolding_all rfl)))) (fun _ _ _ _ _ => (pv 4))) (pe_lst pa_nil) (nomark _)))))), ?_⟩
    refine run_P (n := 3) fh hd rfl q ?_
    dsimp only [cxOf]
    refine es_seq ?_
    refine es_if (et_val (ev_op (ev_callPn (ea_cons (ev_var (by rfl) ⟨_, Pu.d, ea_nil ⟨[eRoom r], rfl, r, gr.ok, rfl, ⟨_, Pu.d, ?_⟩⟩⟩)))))
    refine ev_callPn (ea_cons (ev_var (by rfl) ⟨_, Pu.d, ea_nil ⟨[eRoom t], rfl, t, gt.ok, rfl, ⟨_, Pu.d, ?_⟩⟩⟩))
    refine o2_ne rfl rfl gr.sg.sh gt.sg.sh (str_eqvL _ _) ⟨_, rfl, ?_⟩
    by_cases e1 : signL r = signL t
    · rw [decide_eq_true e1, Bool.true_and] at hk
      rw [decide_eq_true e1]
      refine ite2 (fun h => nomatch h) (fun _ => ?_)
      refine es_next ?_
      have hkl : ∀ z : Room, (keysOf z).length = z.length := keysOf_len
      refine es_seqJ (fun δ => ∃ x4, δ = [.d (eRoom r), .d (eRoom t), .d (.lst ((fewL r t).map eK)), .d (.lst ((manyL r t).map eK)), x4]) ?_ ?_
      · refine es_asg (ev_ifx (et_val (ev_op (ev_callPn (ea_cons (ev_var (by rfl) ⟨_, Pu.d, ea_nil ⟨[eRoom r], rfl, r, gr.ok, rfl, ⟨_, Pu.d, ?_⟩⟩⟩))))))
        refine ev_str ⟨_, Pu.d, o2_eq rfl rfl gr.sg.sh (by decide +kernel) (str_eqvL _ _) ⟨_, rfl, ?_⟩⟩
        by_cases e2 : signL r = "?"
        · rw [decide_eq_true e2]
          refine ite2 (fun _ => ?_) (fun h => absurd rfl h)
          refine ev_tup (ea_cons (ev_callPn (ea_cons (ev_var (by rfl) ⟨_, Pu.d, ea_nil ⟨[eRoom r], rfl, r, by omega, rfl, fun a => ⟨_, Pu.fr, ?_⟩⟩⟩))))
          refine ea_cons (ev_callPn (ea_cons (ev_var (by rfl) ⟨_, Pu.d, ea_nil ⟨[eRoom t], rfl, t, by omega, rfl, fun b => ⟨_, Pu.fr, ea_nil ?_⟩⟩⟩)))
          refine ⟨[.lst ((keysOf r).map eK), .lst ((keysOf t).map eK)], rfl, (show 2 ≤ sizeLine by omega), ?_⟩
          refine gt_tup rfl (gts_cons (gt_name all_in (gts_cons (gt_name all_in (gts_nil ⟨.no, ?_⟩)))))
          unfold fewL manyL
          rw [if_pos e2, if_pos e2]; rfl
        · rw [decide_eq_false e2]
          refine ite2 (fun h => nomatch h) (fun _ => ?_)
          refine ev_tup (ea_cons (ev_callPn (ea_cons (ev_var (by rfl) ⟨_, Pu.d, ea_nil ⟨[eRoom t], rfl, t, by omega, rfl, fun a => ⟨_, Pu.fr, ?_⟩⟩⟩))))
          refine ea_cons (ev_callPn (ea_cons (ev_var (by rfl) ⟨_, Pu.d, ea_nil ⟨[eRoom r], rfl, r, by omega, rfl, fun b => ⟨_, Pu.fr, ea_nil ?_⟩⟩⟩)))
          refine ⟨[.lst ((keysOf t).map eK), .lst ((keysOf r).map eK)], rfl, (show 2 ≤ sizeLine by omega), ?_⟩
          refine gt_tup rfl (gts_cons (gt_name all_in (gts_cons (gt_name all_in (gts_nil ⟨.no, ?_⟩)))))
          unfold fewL manyL
          rw [if_neg e2, if_neg e2]; rfl
      · rintro δ ⟨x4, rfl⟩
        have okf : (fewL r t).length ≤ 200 ∧ (∀ k ∈ fewL r t, okK k) ∧ (manyL r t).length ≤ 200 ∧ ∀ k ∈ manyL r t, okK k := by
          unfold fewL manyL
          split
          · exact ⟨by rw [hkl]; exact zr, okK_keys gr.ok, by rw [hkl]; exact zt, okK_keys gt.ok⟩
          · exact ⟨by rw [hkl]; exact zt, okK_keys gt.ok, by rw [hkl]; exact zr, okK_keys gr.ok⟩
        obtain ⟨f1, f2, f3, f4⟩ := okf
        generalize fewL r t = few at f1 f2 hk
        generalize manyL r t = many at f3 f4 hk
        refine es_ret (ev_op (ev_lcI (ei_L (ev_var (by rfl) ⟨_, Pu.d, ?_⟩))))
        refine ⟨by rw [List.length_map]; omega, fun i acc δ => acc = (lessK (few.take i) many).map eK ∧ δ = [.d (eRoom r), .d (eRoom t), .d (.lst (few.map eK)), .d (.lst (many.map eK)), .no], ⟨rfl, rfl⟩, fun _ _ _ _ => trivial, ?_, ?_⟩
        · rintro i tt acc δ hti _ ⟨rfl, rfl⟩
          rw [List.getElem?_map] at hti
          obtain ⟨k, hki, rfl⟩ := Option.map_eq_some_iff.mp hti
          have okk := f2 k (List.mem_of_getElem? hki)
          have e : few.take (i + 1) = few.take i ++ [k] := by rw [List.take_add_one, hki]; rfl
          refine gt_name (by simp) ?_
          refine et_val (ev_op (ev_var (by rfl) ⟨_, Pu.d, ev_var (by rfl) ⟨_, Pu.d, ?_⟩⟩))
          refine o2_niL (t := eK k) (d := dK k) (ts := many.map eK) (ds := many.map dK) LstV.d (eK_py k) (pys_map eK_py many) (dK_shaped okk) (lstK_shaped f4) (any_K k many) ⟨_, rfl, ?_⟩
          have e3 : lessK (few.take (i + 1)) many = lessK (few.take i) many ++ if k ∈ many then [] else [k] := by
            unfold lessK
            rw [e, List.filter_append]
            by_cases hin : k ∈ many <;> simp [hin]
          by_cases hin : k ∈ many
          · rw [if_pos hin, List.append_nil] at e3
            rw [decide_eq_true hin]
            refine ite2 (fun h => nomatch h) (fun _ => ⟨?_, rfl⟩)
            rw [e3]
          · rw [if_neg hin] at e3
            rw [decide_eq_false hin]
            refine ite2 (fun _ => ?_) (fun h => absurd rfl h)
            refine ev_var (by rfl) ⟨_, Pu.d, ?_, rfl⟩
            rw [e3, List.map_append]; rfl
        · rintro acc δ _ ⟨rfl, rfl⟩ p
          rw [List.length_map, List.take_length]
          refine ⟨_, Pu.fr, ev_lst (ea_nil ⟨[], rfl, (show 0 ≤ sizeLine by omega), fun p3 => ⟨_, Pu.fr, ?_⟩⟩)⟩
          exact o2_eq (t := .lst ((lessK few many).map eK)) (u := .lst (([] : List K3).map eK)) (lstK_py _) (lstK_py []) (lstK_shaped fun k hk => f2 k (List.mem_filter.mp hk).1) (lstK_shaped (ks := []) fun _ h => nomatch h) (lstK_eqv _ []) hk
    · rw [decide_eq_false e1] at hk
      rw [decide_eq_false e1]
      refine ite2 (fun _ => ?_) (fun h => absurd rfl h)
      exact es_ret (ev_bl hk)
end
end K

namespace K
open PySem L2 DL
local macro_rules | `(tactic| walk_at "dl") => `(tactic| with_reducible first
  | refine es_if ?_ | refine es_append ?_ | refine es_sub ?_ | refine es_par3 ?_ | refine es_parD ?_ | refine es_asg ?_ | refine es_ret ?_ | refine es_retN ?_ | refine es_next ?_ | refine es_drop ?_ | refine es_break ?_ | refine es_cont ?_
  | refine et_val ?_ | refine et_B ?_ | refine et_not ?_ | refine et_and ?_ | refine et_or ?_ | refine et_yes ?_
  | refine ev_op ?_ | refine ev_un ?_ | refine ev_cb ?_ | refine ev_tup ?_ | refine ev_lst ?_ | refine ev_ifx ?_ | refine ev_andV ?_ | refine ev_orV ?_ | refine ev_notV ?_ | refine ev_sl ?_
  | refine ea_cons ?_ | refine ea_nil ?_ | refine ev_int ?_ | refine ev_str ?_ | refine ev_bl ?_ | refine ev_non ?_ | refine eo_none ?_ | refine eo_some ?_
  | refine gts_cons ?_ | refine gts_nil ?_
  | refine o2_addI ?_ | refine o2_ltI ?_ | refine o2_leI ?_ | refine o2_gtI ?_ | refine o2_geI ?_ | refine o2_ltS ?_ | refine o2_leS ?_ | refine o2_gtS ?_ | refine o2_sub ?_
  | refine oa_intI ?_ | refine oa_intB ?_ | refine oa_abs ?_ | refine oa_two ?_ | refine ulen_R ?_ | refine ulen_T ?_ | refine ulen_L LstV.d ?_
  | (refine ⟨_, Pu.d, ?_⟩) | (refine ⟨_, Pu.ptr, ?_⟩) | (refine ⟨_, Pu.fr, ?_⟩))
local macro_rules | `(tactic| walk_at "dv") => `(tactic| first
  | refine ev_var (by rfl) ?_ | refine ev_ptr (.inl (by rfl)) ?_ | refine ev_ptr (.inr (.inl (by rfl))) ?_ | refine ev_ptr (.inr (.inr (by rfl))) ?_
  | refine uix_L (LstV.o ⟨0, .inr (by rfl)⟩) (by rfl) ?_ | refine uix_L LstV.d (by rfl) ?_ | refine uix_T (by rfl) ?_
  | refine gt_tup (by rfl) ?_ | refine gt_name (by first | exact all_in | simp) ?_ | refine ⟨_, rfl, ?_⟩)
local macro_rules | `(tactic| walk_at "e") => `(tactic| repeat (first | walk_at "dl" | walk_at "dv"))
local macro_rules | `(tactic| walk_at "d") => `(tactic| repeat (first | with_reducible refine es_seq ?_ | walk_at "dl" | walk_at "dv"))
section
variable {P : Program} {w : World} {K : PySem.W.Frag} {mg : Str → Option Value} {base : Heap}
/-! ### short talks tried -/
structure PlanT (p : Plan) : Prop where
  g : GoodPlan p
  n : p ≠ []
  r : ∀ r ∈ p, r.length ≤ 5
theorem PlanT.tgt {p : Plan} (h : PlanT p) : Tgt p := fun r hr s hs => by
  have := (h.g.2 r hr).2.1 s hs
  exact ⟨this.2.2.2.1, this.2.2.2.2⟩
theorem PlanT.in0 {p : Plan} (h : PlanT p) : Inr p 0 := ⟨Int.le_refl 0, by have := List.length_pos_iff.mpr h.n; omega⟩
theorem PlanT.run {p : Plan} (h : PlanT p) {r : List K3} {i : Int} (hr : runI p 0 r = some i) : Inr p i := runI_inr h.tgt h.g.nodk h.in0 hr
def goodL (p1 p2 : Plan) (d : Int × Int) : Prop := standsL (rm p1 d.1) (rm p2 d.2) = true
/-- the rows one key longer -/
def extE (p1 p2 : Plan) (e : Ent) : List Ent := (fewL (rm p1 e.2.1) (rm p2 e.2.2)).map fun k => (e.1 ++ [k], ((getM (ways (rm p1 e.2.1)) k).getD 0, (getM (ways (rm p2 e.2.2)) k).getD 0))
theorem keysOf_mem {r : Room} {k : K3} : k ∈ keysOf r ↔ k ∈ r.map kyOf := (keysOf_perm r).mem_iff
theorem goodL_both {p1 p2 : Plan} {d : Int × Int} (h : goodL p1 p2 d) {k : K3} (hk : k ∈ fewL (rm p1 d.1) (rm p2 d.2)) : k ∈ (rm p1 d.1).map kyOf ∧ k ∈ (rm p2 d.2).map kyOf := by
  unfold goodL standsL at h
  rw [Bool.and_eq_true, decide_eq_true_eq, decide_eq_true_eq, lessK_nil] at h
  have h2 := h.2 k hk
  unfold fewL at hk
  unfold manyL at h2
  split at hk
  · rename_i e
    rw [if_pos e] at h2
    exact ⟨keysOf_mem.mp hk, keysOf_mem.mp h2⟩
  · rename_i e
    rw [if_neg e] at h2
    exact ⟨keysOf_mem.mp h2, keysOf_mem.mp hk⟩
theorem few_of {p1 p2 : Plan} {d : Int × Int} {k : K3} (h1 : k ∈ (rm p1 d.1).map kyOf) (h2 : k ∈ (rm p2 d.2).map kyOf) : k ∈ fewL (rm p1 d.1) (rm p2 d.2) := by
  unfold fewL
  split
  · exact keysOf_mem.mpr h1
  · exact keysOf_mem.mpr h2
theorem Front.next {p1 p2 : Plan} (h1 : PlanT p1) (h2 : PlanT p2) {n : Nat} {es : List Ent} (h : Front p1 p2 (goodL p1 p2) n es) (hg : ∀ e ∈ es, goodL p1 p2 e.2) : Front p1 p2 (goodL p1 p2) (n + 1) ((sortE es).flatMap (extE p1 p2)) where
  run := fun e he => by
    obtain ⟨e0, he0, he⟩ := List.mem_flatMap.mp he
    obtain ⟨k, hk, rfl⟩ := List.mem_map.mp he
    have hm := (sortE_perm es).mem_iff.mp he0
    obtain ⟨hl, hr⟩ := h.run e0 hm
    obtain ⟨k1, k2⟩ := goodL_both (hg e0 hm) hk
    refine ⟨by rw [List.length_append, hl]; rfl, PRun.snoc.mpr ⟨e0.2, hr, ?_, ?_⟩⟩
    · have := (key_mem (rm_nod h1.g.nodk e0.2.1) k).mp k1
      obtain ⟨v, hv⟩ := Option.isSome_iff_exists.mp this
      show getM (ways (rm p1 e0.2.1)) k = some ((getM (ways (rm p1 e0.2.1)) k).getD 0)
      rw [hv]; rfl
    · have := (key_mem (rm_nod h2.g.nodk e0.2.2) k).mp k2
      obtain ⟨v, hv⟩ := Option.isSome_iff_exists.mp this
      show getM (ways (rm p2 e0.2.2)) k = some ((getM (ways (rm p2 e0.2.2)) k).getD 0)
      rw [hv]; rfl
  all := fun r d hr h3 => by
    rcases BF.snoc_or r with rfl | ⟨r', k, rfl⟩
    · simp at hr
    · obtain ⟨c, hc, hk1, hk2⟩ := PRun.snoc.mp h3
      have hm := h.all r' c (by simpa using hr) hc
      refine List.mem_flatMap.mpr ⟨(r', c), (sortE_perm es).mem_iff.mpr hm, List.mem_map.mpr ⟨k, few_of ((key_mem (rm_nod h1.g.nodk c.1) k).mpr (by rw [hk1]; rfl)) ((key_mem (rm_nod h2.g.nodk c.2) k).mpr (by rw [hk2]; rfl)), ?_⟩⟩
      show (r' ++ [k], ((getM (ways (rm p1 c.1)) k).getD 0, (getM (ways (rm p2 c.2)) k).getD 0)) = _
      rw [hk1, hk2]; rfl
  low := fun r d hr h3 => by
    by_cases e : r.length = n
    · exact hg _ (h.all r d e h3)
    · exact h.low r d (by omega) h3
theorem extE_len {p1 p2 : Plan} (h1 : PlanT p1) (h2 : PlanT p2) {e : Ent} (i1 : Inr p1 e.2.1) (i2 : Inr p2 e.2.2) : (extE p1 p2 e).length ≤ 5 := by
  unfold extE fewL
  rw [List.length_map]
  split
  · rw [keysOf_len]; exact h1.r _ (rm_mem i1.1 i1.2)
  · rw [keysOf_len]; exact h2.r _ (rm_mem i2.1 i2.2)
abbrev s_law_tried : Stmt := topS 53
abbrev N_law_tried : List Str := ["base", "mate", "front", "turn", "later", "path", "at", "other_at", "key"]
theorem sc_law_tried : FnScope N_law_tried ["base", "mate"] (defScope s_law_tried) := ⟨rfl, rfl, rfl, by decide +kernel, rfl, by decide +kernel, by decide +kernel⟩

def STried : List T → (RT → Prop) → Prop := fun ts P => ∃ p1 p2 : Plan, PlanT p1 ∧ PlanT p2 ∧ ts = [ePlan p1, ePlan p2] ∧ ∀ res, Tried p1 p2 (goodL p1 p2) 5 res → P (.d (eRest res))
theorem PlanT.room {p : Plan} (h : PlanT p) {i : Int} (hi : Inr p i) : RoomL (rm p i) := ⟨Nat.le_trans (h.r _ (rm_mem hi.1 hi.2)) (by decide), _, (h.g.2 _ (rm_mem hi.1 hi.2)).2.1⟩
theorem ok_tried {f : Addr} {fd : FuncData} (Fn : Fun K "_law_tried" "_law_tried" s_law_tried f fd) (TX : TXF mg)
    (C_law_sign_of : Cal P w K mg base CX0 "_law_sign_of" 1 ["steps_here"] (spP ⟨P, w, K⟩ SSignL)) (C_law_keys : Cal P w K mg base CX0 "_law_keys" 1 ["steps_here"] (spP ⟨P, w, K⟩ SKeys))
    (C_law_goal : Cal P w K mg base CX0 "_law_goal" 1 ["steps_here", "key"] (spP ⟨P, w, K⟩ SGoal)) (C_law_stands : Cal P w K mg base CX0 "_law_stands" 2 ["mine", "its"] (spP ⟨P, w, K⟩ SLStands)) : FnOk P w K mg base CX0 3 f fd ["base", "mate"] (spP ⟨P, w, K⟩ STried) := by
  refine Fn.ok sc_law_tried (fun vs H Q E h => ?_) (fun cdv A outer s H vs Q E hr h => ?_)
  · obtain ⟨F, ts, _, hd, P, ⟨_, _, _, _, rfl, _⟩, _⟩ := h
    rw [hd.length]; rfl
  · obtain ⟨F, ts, fh, hd, PP, ⟨p1, p2, g1, g2, rfl, hk⟩, q⟩ := h
    have hu := hr.units
    have hu66 := units66 hr
    have hz : (200000 : Nat) < sizeLine := by decide +kernel
    refine ⟨_, (pss_cons (ps_set (i := 2) sc_law_tried.nd rfl (Or.inl rfl) (pe_lst (pa_cons (pe_tup (pa_cons (pe_lst pa_nil) (pa_cons pe_int (pa_cons pe_int pa_nil)))) pa_nil)))
    (pss_cons (ps_for PassesOwn.never rfl (pi_range1 (by rfl) TX.n_range (pa_cons pe_int pa_nil)) (pg_name (i := 3) sc_law_tried.nd rfl (Or.inl rfl)) (pss_cons (ps_set (i := 4) sc_law_tried.nd rfl (Or.inl rfl) (pe_lst pa_nil))
    (pss_cons (ps_for PassesOwn.never rfl (pi_listB ⟨P, w, K⟩ rfl (pe_callB (call_sortedB ⟨P, w, K⟩ rfl hu66) (by rfl) TX.n_sorted (by decide +kernel) (pa_cons (pv 2) pa_nil))) (pg_tupB ⟨P, w, K⟩ rfl 3 rfl (pgs_cons (pg_name (i := 5) sc_law_tried.nd rfl (Or.inl rfl)) (pgs_cons (pg_name (i := 6) sc_law_tried.nd rfl (Or.inl rfl)) (pgs_cons (pg_name (i := 7) sc_law_tried.nd rfl (Or.inl rfl)) pgs_nil)))) (pss_cons (ps_if (pt_not (pt_val (pe_call C_law_stands.ok (hr.mono (by decide)) (by rfl) C_law_stands.mg C_law_stands.kp C_law_stands.bd .nil pass0 (pa_cons (pe_ix (ix_B ⟨P, w, K⟩ rfl hu) (pv 0) (pv 6) (fun _ _ => rfl)) (pa_cons (pe_ix (ix_B ⟨P, w, K⟩ rfl hu) (pv 1) (pv 7) (fun _ _ => rfl)) pa_nil))))) (pss_one (ps_ret (pv 5))) pss_nil)
    (pss_one (ps_for PassesOwn.never rfl (pi_listB ⟨P, w, K⟩ rfl (pe_call C_law_keys.ok (hr.mono (by decide)) (by rfl) C_law_keys.mg C_law_keys.kp C_law_keys.bd .nil pass0 (pa_cons (pe_ifExp (pt_cmpR (op_eqB ⟨P, w, K⟩ rfl hu) (pe_call C_law_sign_of.ok (hr.mono (by decide)) (by rfl) C_law_sign_of.mg C_law_sign_of.kp C_law_sign_of.bd .nil pass0 (pa_cons (pe_ix (ix_B ⟨P, w, K⟩ rfl hu) (pv 0) (pv 6) (fun _ _ => rfl)) pa_nil)) pe_str (nomark _)) (pe_ix (ix_B ⟨P, w, K⟩ rfl hu) (pv 0) (pv 6) (fun _ _ => rfl)) (pe_ix (ix_B ⟨P, w, K⟩ rfl hu) (pv 1) (pv 7) (fun _ _ => rfl))) pa_nil))) (pg_name (i := 8) sc_law_tried.nd rfl (Or.inl rfl)) (pss_one (ps_expr (pe_bm PySem.F.plainAttrs_list PySem.F.slot_list_append PySem.F.type_list_append mt_append (pv 4) (pa_cons (pe_tup (pa_cons (pe_op (op_addB ⟨P, w, K⟩ rfl) (pv 5) (pe_lst (pa_cons (pv 8) pa_nil))) (pa_cons (pe_call C_law_goal.ok (hr.mono (by decide)) (by rfl) C_law_goal.mg C_law_goal.kp C_law_goal.bd .nil pass0 (pa_cons (pe_ix (ix_B ⟨P, w, K⟩ rfl hu) (pv 0) (pv 6) (fun _ _ => rfl)) (pa_cons (pv 8) pa_nil))) (pa_cons (pe_call C_law_goal.ok (hr.mono (by decide)) (by rfl) C_law_goal.mg C_law_goal.kp C_law_goal.bd .nil pass0 (pa_cons (pe_ix (ix_B ⟨P, w, K⟩ rfl hu) (pv 1) (pv 7) (fun _ _ => rfl)) (pa_cons (pv 8) pa_nil))) pa_nil)))) pa_nil))))))))
    (pss_one (ps_set (i := 2) sc_law_tried.nd rfl (Or.inl rfl) (pv 4))))))
    (pss_one (ps_ret pe_non)))), ?_⟩
    refine run_P (n := 7) fh hd rfl q ?_
    dsimp only [cxOf]
    refine es_seq ?_
    refine es_asg (ev_lst (ea_cons (ev_tup (ea_cons (ev_lst (ea_nil ⟨[], rfl, (show 0 ≤ sizeLine by omega), fun p0 => ⟨_, Pu.fr, ?_⟩⟩))))))
    walk_at "e"
    refine ⟨[.lst [], .int 0, .int 0], rfl, (show 3 ≤ sizeLine by omega), ⟨_, Pu.d, ea_nil ⟨[eEnt ([], 0, 0)], rfl, (show 1 ≤ sizeLine by omega), fun pf => ?_⟩⟩⟩
    refine gt_name all_in ?_
    refine es_seqJ (fun δ => ∀ r d, r.length < 5 → PRun p1 p2 r d → goodL p1 p2 d) ?_ ?_
    · refine es_forI (ei_R (ea_cons (ev_int ⟨_, Pu.d, ea_nil ?_⟩)))
      refine ⟨5, rfl, by decide, fun n δ => ∃ (es : List Ent) (pf : Addr) (x3 x4 x5 x6 x7 x8 : SV), Front p1 p2 (goodL p1 p2) n es ∧ es.length ≤ 5 ^ n ∧ δ = [.d (ePlan p1), .d (ePlan p2), .own pf (.lst (es.map eEnt)), x3, x4, x5, x6, x7, x8], ⟨[([], 0, 0)], pf, _, _, _, _, _, _, Front.start p1 p2 _, by decide, rfl⟩, fun _ _ _ => trivial, ?_, ?_⟩
      · rintro n t δ ht ⟨es, pf, x3, x4, x5, x6, x7, x8, hF, hl, rfl⟩
        have hn : n < 5 := by
          have := (List.getElem?_eq_some_iff.mp ht).1
          simpa using this
        have h5 : 5 ^ n ≤ 625 := by
          have : n = 0 ∨ n = 1 ∨ n = 2 ∨ n = 3 ∨ n = 4 := by omega
          rcases this with h | h | h | h | h <;> subst h <;> decide
        refine gt_name all_in ?_
        refine es_seq ?_
        refine es_asg (ev_lst (ea_nil ⟨[], rfl, (show 0 ≤ sizeLine by omega), fun pl => ?_⟩))
        refine gt_name all_in ?_
        have hlS : (sortE es).length = es.length := (sortE_perm es).length_eq
        refine es_seqJ (fun δ => ∃ (x5 x6 x7 x8 : SV), (∀ e ∈ es, goodL p1 p2 e.2) ∧ δ = [.d (ePlan p1), .d (ePlan p2), .own pf (.lst (es.map eEnt)), .d t, .own pl (.lst (((sortE es).flatMap (extE p1 p2)).map eEnt)), x5, x6, x7, x8]) ?_ ?_
        · refine es_forI (ei_L (ev_cb (ea_cons (ev_ptr (a := pf) (.inl (by rfl)) ⟨_, Pu.ptr, ea_nil ?_⟩))))
          refine oa_sorted (e := eEnt) dEnt (xs := es) (LstV.o ⟨2, .inl rfl⟩) eEnt_py (PySem.W.AllAlike.of fun a b => alike_Ent a b) (PySem.W.Sortable.tuples fun _ => ⟨_, _, rfl⟩) dEnt_depth fun ps => ⟨_, Pu.fr, ?_⟩
          refine ⟨fun j δ => ∃ (x5 x6 x7 x8 : SV), (∀ (i : Nat) (x : Ent), i < j → (sortE es)[i]? = some x → goodL p1 p2 x.2) ∧ (((sortE es).take j).flatMap (extE p1 p2)).length ≤ 5 * j ∧ δ = [.d (ePlan p1), .d (ePlan p2), .own pf (.lst (es.map eEnt)), .d t, .own pl (.lst ((((sortE es).take j).flatMap (extE p1 p2)).map eEnt)), x5, x6, x7, x8], ⟨_, _, _, _, (fun i x h => absurd h (Nat.not_lt_zero i)), Nat.le_refl 0, rfl⟩, fun _ _ _ => trivial, ?_, ?_⟩
          · rintro j tt δ htj ⟨x5, x6, x7, x8, hgood, hjl, rfl⟩
            have htj : ((sortE es).map eEnt)[j]? = some tt := htj
            rw [List.getElem?_map] at htj
            obtain ⟨e, he, rfl⟩ := Option.map_eq_some_iff.mp htj
            have hjb : j < es.length := by rw [← hlS]; exact (List.getElem?_eq_some_iff.mp he).1
            have hem := (sortE_perm es).mem_iff.mp (List.mem_of_getElem? he)
            obtain ⟨hel, her1, her2⟩ := hF.run e hem
            have i1 := g1.run her1
            have i2 := g2.run her2
            have a1 : atI (p1.map eRoom) e.2.1 = some (eRoom (rm p1 e.2.1)) := rm_at i1.1 i1.2
            have a2 : atI (p2.map eRoom) e.2.2 = some (eRoom (rm p2 e.2.2)) := rm_at i2.1 i2.2
            have r1 := g1.room i1
            have r2 := g2.room i2
            obtain ⟨path, i, i'⟩ := e
            have z1 : (rm p1 i).length ≤ 200 := r1.z
            have z2 : (rm p2 i').length ≤ 200 := r2.z
            refine gt_tup rfl (gts_cons (gt_name all_in (gts_cons (gt_name all_in (gts_cons (gt_name all_in (gts_nil ?_)))))))
            refine es_seq ?_
            refine es_if (et_not (et_val (ev_callPn (ea_cons (ev_op (ev_var (by rfl) ⟨_, Pu.d, ev_var (by rfl) ⟨_, Pu.d, uix_L LstV.d a1 ⟨_, Pu.d, ?_⟩⟩⟩))))))
            refine ea_cons (ev_op (ev_var (by rfl) ⟨_, Pu.d, ev_var (by rfl) ⟨_, Pu.d, uix_L LstV.d a2 ⟨_, Pu.d, ea_nil ?_⟩⟩⟩))
            refine ⟨[eRoom (rm p1 i), eRoom (rm p2 i')], rfl, _, _, r1, r2, rfl, ⟨_, rfl, ?_⟩⟩
            cases hst : standsL (rm p1 i) (rm p2 i') with
            | false =>
              refine ite2 (fun _ => ?_) (fun h => absurd rfl h)
              refine es_ret (ev_var (by rfl) ?_)
              exact hk (some path) (hF.found he hgood (by unfold goodL; rw [hst]; decide) hn)
            | true =>
              refine ite2 (fun h => nomatch h) (fun _ => ?_)
              refine es_next ?_
              have hgd : goodL p1 p2 (i, i') := hst
              have hext : (sortE es).take (j + 1) = (sortE es).take j ++ [(path, i, i')] := by rw [List.take_add_one, he]; rfl
              have hel5 : (extE p1 p2 (path, i, i')).length ≤ 5 := extE_len g1 g2 i1 i2
              have hpl : path.length < 5 := by have : path.length = n := hel; omega
              let lead : Room := if signL (rm p1 i) = "?" then rm p1 i else rm p2 i'
              have hlead : keysOf lead = fewL (rm p1 i) (rm p2 i') := by
                show keysOf (if _ then _ else _) = _
                unfold fewL
                split <;> rfl
              have hlz : lead.length < sizeLine := by
                show (if _ then _ else _ : Room).length < _
                split <;> omega
              refine es_forI (ei_L (ev_callPn (ea_cons (EV.imp (P := fun δ r => δ = [.d (ePlan p1), .d (ePlan p2), .own pf (.lst (es.map eEnt)), .d t, .own pl (.lst ((((sortE es).take j).flatMap (extE p1 p2)).map eEnt)), .d (.lst (path.map eK)), .d (.int i), .d (.int i'), x8] ∧ r = .d (eRoom lead)) ?_ ?_))))
              · refine ev_ifx (et_val (ev_op (ev_callPn (ea_cons (ev_op (ev_var (by rfl) ⟨_, Pu.d, ev_var (by rfl) ⟨_, Pu.d, uix_L LstV.d a1 ⟨_, Pu.d, ea_nil ?_⟩⟩⟩))))))
                refine ⟨[eRoom (rm p1 i)], rfl, rm p1 i, r1.ok, rfl, ⟨_, Pu.d, ev_str ⟨_, Pu.d, o2_eq rfl rfl r1.sg.sh (by decide +kernel) (str_eqvL _ _) ⟨_, rfl, ?_⟩⟩⟩⟩
                by_cases e2 : signL (rm p1 i) = "?"
                · rw [decide_eq_true e2]
                  refine ite2 (fun _ => ?_) (fun h => absurd rfl h)
                  refine ev_op (ev_var (by rfl) ⟨_, Pu.d, ev_var (by rfl) ⟨_, Pu.d, uix_L LstV.d a1 ⟨rfl, ?_⟩⟩⟩)
                  show SV.d (eRoom (rm p1 i)) = .d (eRoom (if _ then _ else _))
                  rw [if_pos e2]
                · rw [decide_eq_false e2]
                  refine ite2 (fun h => nomatch h) (fun _ => ?_)
                  refine ev_op (ev_var (by rfl) ⟨_, Pu.d, ev_var (by rfl) ⟨_, Pu.d, uix_L LstV.d a2 ⟨rfl, ?_⟩⟩⟩)
                  show SV.d (eRoom (rm p2 i')) = .d (eRoom (if _ then _ else _))
                  rw [if_neg e2]
              · rintro δ r ⟨rfl, rfl⟩
                refine ⟨_, Pu.d, ea_nil ⟨[eRoom lead], rfl, lead, hlz, rfl, fun a => ⟨_, Pu.fr, ?_⟩⟩⟩
                rw [hlead]
                have hext5 : extE p1 p2 (path, i, i') = (fewL (rm p1 i) (rm p2 i')).map fun k => ((path ++ [k], ((getM (ways (rm p1 i)) k).getD 0, (getM (ways (rm p2 i')) k).getD 0)) : Ent) := rfl
                have hfl : (fewL (rm p1 i) (rm p2 i')).length ≤ 5 := by rw [hext5, List.length_map] at hel5; exact hel5
                refine ⟨fun u δ => ∃ x8, δ = [.d (ePlan p1), .d (ePlan p2), .own pf (.lst (es.map eEnt)), .d t, .own pl (.lst ((((sortE es).take j).flatMap (extE p1 p2) ++ ((fewL (rm p1 i) (rm p2 i')).take u).map fun k => ((path ++ [k], ((getM (ways (rm p1 i)) k).getD 0, (getM (ways (rm p2 i')) k).getD 0)) : Ent)).map eEnt)), .d (.lst (path.map eK)), .d (.int i), .d (.int i'), x8], ⟨_, by rw [List.take_zero, List.map_nil, List.append_nil]⟩, fun _ _ _ => trivial, ?_, ?_⟩
                · rintro u tk δ htu ⟨y8, rfl⟩
                  rw [List.getElem?_map] at htu
                  obtain ⟨k, hku, rfl⟩ := Option.map_eq_some_iff.mp htu
                  have hkm := List.mem_of_getElem? hku
                  obtain ⟨k1, k2⟩ := goodL_both (d := (i, i')) hgd hkm
                  have okk : okK k := by
                    obtain ⟨s0, hs0, rfl⟩ := List.mem_map.mp k1
                    exact r1.ok s0 hs0
                  obtain ⟨v1, hv1⟩ := Option.isSome_iff_exists.mp ((key_mem (rm_nod g1.g.nodk i) k).mp k1)
                  obtain ⟨v2, hv2⟩ := Option.isSome_iff_exists.mp ((key_mem (rm_nod g2.g.nodk i') k).mp k2)
                  have hub : u < 5 := by have := (List.getElem?_eq_some_iff.mp hku).1; omega
                  refine gt_name all_in ?_
                  refine es_append ?_
                  walk_at "e"
                  refine ⟨⟨_, 4, .inl rfl⟩, ?_⟩
                  refine ev_tup (ea_cons (ev_op (ev_var (by rfl) ⟨_, Pu.d, ev_lst (ea_cons (ev_var (by rfl) ⟨_, Pu.d, ea_nil ⟨[eK k], rfl, (show 1 ≤ sizeLine by omega), fun p5 => ⟨_, Pu.fr, ?_⟩⟩⟩))⟩)))
                  refine o2_cat LstV.d LstV.d (by rw [List.length_map]; show _ + 1 ≤ _; omega) fun p6 => ⟨_, Pu.fr, ?_⟩
                  refine ea_cons (ev_callPn (ea_cons (ev_op (ev_var (by rfl) ⟨_, Pu.d, ev_var (by rfl) ⟨_, Pu.d, uix_L LstV.d a1 ⟨_, Pu.d, ea_cons (ev_var (by rfl) ⟨_, Pu.d, ea_nil ?_⟩)⟩⟩⟩))))
                  refine ⟨[eRoom (rm p1 i), eK k], rfl, rm p1 i, k, r1.ok, okk, rfl, ⟨_, Pu.d, ?_⟩⟩
                  refine ea_cons (ev_callPn (ea_cons (ev_op (ev_var (by rfl) ⟨_, Pu.d, ev_var (by rfl) ⟨_, Pu.d, uix_L LstV.d a2 ⟨_, Pu.d, ea_cons (ev_var (by rfl) ⟨_, Pu.d, ea_nil ?_⟩)⟩⟩⟩))))
                  refine ⟨[eRoom (rm p2 i'), eK k], rfl, rm p2 i', k, r2.ok, okk, rfl, ⟨_, Pu.d, ?_⟩⟩
                  rw [hv1, hv2]
                  refine ea_nil ⟨[.lst (path.map eK ++ [eK k]), .int v1, .int v2], rfl, (show 3 ≤ sizeLine by omega), ⟨_, Pu.d, ?_⟩⟩
                  have hul : (((sortE es).take j).flatMap (extE p1 p2) ++ ((fewL (rm p1 i) (rm p2 i')).take u).map fun k => ((path ++ [k], ((getM (ways (rm p1 i)) k).getD 0, (getM (ways (rm p2 i')) k).getD 0)) : Ent)).length ≤ 5 * j + 5 := by
                    rw [List.length_append, List.length_map, List.length_take]; omega
                  refine appO 4 rfl (by rw [List.length_map]; omega) ⟨.d (eK k), ?_⟩
                  rw [List.take_add_one, hku, Option.toList_some]
                  simp only [List.map_append, List.map_cons, List.map_nil, List.append_assoc, hv1, hv2, Option.getD_some, eEnt, List.set_cons_succ, List.set_cons_zero]
                · rintro δ ⟨y8, rfl⟩
                  rw [List.length_map, List.take_length, ← hext5]
                  refine ⟨.d (.lst (path.map eK)), .d (.int i), .d (.int i'), y8, fun i0 x hi0 hx => ?_, ?_, ?_⟩
                  rotate_left 2
                  · rw [hext, List.flatMap_append, List.flatMap_singleton]
                  · by_cases z : i0 < j
                    · exact hgood i0 x z hx
                    · have : i0 = j := by omega
                      subst this
                      rw [he] at hx; cases hx
                      exact hgd
                  · rw [hext, List.flatMap_append, List.flatMap_singleton, List.length_append]; omega
          · rintro δ ⟨x5, x6, x7, x8, hgood, hjl, rfl⟩
            have e0 : (List.map eEnt (es.mergeSort fun a b => PySem.W.dataLe false dEnt a b)).length = (sortE es).length := List.length_map ..
            rw [e0] at hgood
            rw [e0, List.take_length]
            exact ⟨_, _, _, _, fun e he => by
              obtain ⟨i, hi⟩ := List.mem_iff_getElem?.mp ((sortE_perm es).mem_iff.mpr he)
              exact hgood i e (List.getElem?_eq_some_iff.mp hi).1 hi, rfl⟩
        · rintro δ ⟨x5, x6, x7, x8, hgood, rfl⟩
          have hfl : ((sortE es).flatMap (extE p1 p2)).length ≤ 5 * es.length := by
            rw [← hlS]
            have hin : ∀ e ∈ sortE es, (extE p1 p2 e).length ≤ 5 := fun e he => by
              obtain ⟨_, h1, h2⟩ := hF.run e ((sortE_perm es).mem_iff.mp he)
              exact extE_len g1 g2 (g1.run h1) (g2.run h2)
            generalize sortE es = ss at hin
            induction ss with
            | nil => simp
            | cons x xs ih =>
              have h1 := hin x List.mem_cons_self
              have h2 := ih fun e he => hin e (List.mem_cons_of_mem _ he)
              rw [List.flatMap_cons, List.length_append, List.length_cons]; omega
          refine es_asg (ev_take (i := 4) (by rfl) ?_)
          refine gt_name all_in ?_
          exact ⟨_, pl, _, _, _, _, _, _, hF.next g1 g2 hgood, by rw [Nat.pow_succ]; omega, rfl⟩
      · rintro δ ⟨es, pf, x3, x4, x5, x6, x7, x8, hF, hl, rfl⟩
        exact fun r d hr h => hF.low r d (by simpa using hr) h
    · intro δ h
      exact es_retN (hk none h)
end
end K

namespace K
open PySem L2 DL
local macro_rules | `(tactic| walk_at "dl") => `(tactic| with_reducible first
  | refine es_if ?_ | refine es_append ?_ | refine es_sub ?_ | refine es_par3 ?_ | refine es_parD ?_ | refine es_asg ?_ | refine es_ret ?_ | refine es_retN ?_ | refine es_next ?_ | refine es_drop ?_ | refine es_break ?_ | refine es_cont ?_
  | refine et_val ?_ | refine et_B ?_ | refine et_not ?_ | refine et_and ?_ | refine et_or ?_ | refine et_yes ?_
  | refine ev_op ?_ | refine ev_un ?_ | refine ev_cb ?_ | refine ev_tup ?_ | refine ev_lst ?_ | refine ev_ifx ?_ | refine ev_andV ?_ | refine ev_orV ?_ | refine ev_notV ?_ | refine ev_sl ?_
  | refine ea_cons ?_ | refine ea_nil ?_ | refine ev_int ?_ | refine ev_str ?_ | refine ev_bl ?_ | refine ev_non ?_ | refine eo_none ?_ | refine eo_some ?_
  | refine gts_cons ?_ | refine gts_nil ?_
  | refine o2_addI ?_ | refine o2_ltI ?_ | refine o2_leI ?_ | refine o2_gtI ?_ | refine o2_geI ?_ | refine o2_ltS ?_ | refine o2_leS ?_ | refine o2_gtS ?_ | refine o2_sub ?_
  | refine oa_intI ?_ | refine oa_intB ?_ | refine oa_abs ?_ | refine oa_two ?_ | refine ulen_R ?_ | refine ulen_T ?_ | refine ulen_L LstV.d ?_
  | (refine ⟨_, Pu.d, ?_⟩) | (refine ⟨_, Pu.ptr, ?_⟩) | (refine ⟨_, Pu.fr, ?_⟩))
local macro_rules | `(tactic| walk_at "dv") => `(tactic| first
  | refine ev_var (by rfl) ?_ | refine ev_ptr (.inl (by rfl)) ?_ | refine ev_ptr (.inr (.inl (by rfl))) ?_ | refine ev_ptr (.inr (.inr (by rfl))) ?_
  | refine uix_L (LstV.o ⟨0, .inr (by rfl)⟩) (by rfl) ?_ | refine uix_L LstV.d (by rfl) ?_ | refine uix_T (by rfl) ?_
  | refine gt_tup (by rfl) ?_ | refine gt_name (by first | exact all_in | simp) ?_ | refine ⟨_, rfl, ?_⟩)
local macro_rules | `(tactic| walk_at "e") => `(tactic| repeat (first | walk_at "dl" | walk_at "dv"))
local macro_rules | `(tactic| walk_at "d") => `(tactic| repeat (first | with_reducible refine es_seq ?_ | walk_at "dl" | walk_at "dv"))
section
variable {P : Program} {w : World} {K : PySem.W.Frag} {mg : Str → Option Value} {base : Heap}
/-! ### plans that are nearly alike, of rooms with one sign -/
structure RoomK (n : Nat) (R : Nat) (line : Str) (words : List Str) (r : Room) : Prop where
  l : r.length ≤ R
  g : ∀ s ∈ r, GoodStep (n : Nat) s ∧ s.2.1 = line ∧ s.2.2.1 ∈ words
  k : (r.map kyOf).Nodup
  o : ∀ s ∈ r, ∀ t ∈ r, s.1 = t.1
theorem RoomK.mono {n R R' : Nat} {line : Str} {words : List Str} {r : Room} (h : RoomK n R line words r) (hr : R ≤ R') : RoomK n R' line words r := ⟨Nat.le_trans h.l hr, h.g, h.k, h.o⟩
theorem RoomK.ok {n R : Nat} {line : Str} {words : List Str} {r : Room} (h : RoomK n R line words r) : ∀ s ∈ r, okS s := fun s hs => (h.g s hs).1.ok
def notW (r : Room) (word : Str) : Room := r.filter fun s => !decide (s.2.2.1 = word)
theorem RoomK.rest {n R : Nat} {line word : Str} {words : List Str} {r : Room} (h : RoomK n R line words r) : RoomK n R line words (notW r word) :=
  ⟨Nat.le_trans (List.length_filter_le _ _) h.l, fun s hs => h.g s (List.mem_filter.mp hs).1, h.k.sublist (List.filter_sublist.map kyOf), fun s hs t ht => h.o s (List.mem_filter.mp hs).1 t (List.mem_filter.mp ht).1⟩
theorem notW_all {r : Room} {word : Str} (h : (notW r word).length = r.length) : ∀ s ∈ r, s.2.2.1 ≠ word := fun s hs e => by
  have := List.length_filter_eq_length_iff.mp h s hs
  rw [decide_eq_true e] at this
  cases this
theorem RoomK.snoc {n R : Nat} {line word sg : Str} {words : List Str} {r : Room} {g : Int} (h : RoomK n R line words r) (hsg : signL r = sg) (hne : sg ≠ " ") (hn : ∀ s ∈ r, s.2.2.1 ≠ word) (hl : IsName line) (hw : IsName word) (hwm : word ∈ words) (h0 : 0 ≤ g) (h1 : g < n) : RoomK n (R + 1) line words (r ++ [(sg, line, word, g)]) := by
  have hs : ∀ s ∈ r, s.1 = sg := fun s hs => by
    cases r with
    | nil => cases hs
    | cons x r => rw [← hsg]; exact h.o s hs x List.mem_cons_self
  have gs : sg = "!" ∨ sg = "?" := by
    cases r with
    | nil => exact absurd hsg.symm hne
    | cons x r => rw [← hsg]; exact (h.g x List.mem_cons_self).1.1
  refine ⟨by rw [List.length_append]; show _ + 1 ≤ _; have := h.l; omega, fun s hs2 => ?_, ?_, one_snoc h.o hs⟩
  · rcases List.mem_append.mp hs2 with hs2 | hs2
    · exact h.g s hs2
    · rw [List.mem_singleton] at hs2
      subst hs2
      exact ⟨⟨gs, hl, hw, h0, h1⟩, rfl, hwm⟩
  · rw [List.map_append, List.nodup_append]
    refine ⟨h.k, by simp, fun a ha b hb e => ?_⟩
    rw [List.map_singleton, List.mem_singleton] at hb
    subst hb; subst e
    obtain ⟨s, hs3, e⟩ := List.mem_map.mp ha
    have e2 : s.2.2.1 = word := congrArg (fun k : K3 => k.2.2) e
    exact hn s hs3 e2
theorem txt_sh {x : Str} (h : okT x) : SeqAt.shaped (.str x) = true := shaped_of (by rw [PyData.canLay0]; exact h) (by simp [PyData.depth])
abbrev s_law_kin_plan : Stmt := topS 52
abbrev N_law_kin_plan : List Str := ["mint", "plan", "line", "words_here", "found", "steps_here", "path", "turn", "word", "sign", "rest", "step"]
theorem sc_law_kin_plan : FnScope N_law_kin_plan ["mint", "plan", "line", "words_here"] (defScope s_law_kin_plan) := ⟨rfl, rfl, rfl, by decide +kernel, rfl, by decide +kernel, by decide +kernel⟩

def SKin : OW → List T → (OW → RT → Prop) → Prop := fun us ts P => ∃ (n R : Nat) (p : Plan) (line : Str) (words : List Str), n + 1000 < 100000 ∧ Mint n us ∧ R ≤ 100 ∧ Sml True R [line] words p ∧ words ≠ [] ∧ words.length ≤ 100 ∧ IsName line ∧ (∀ x ∈ words, IsName x) ∧
  ts = [ePlan p, .str line, .lst (words.map .str)] ∧ ∀ us' q, Mint (n + 300) us' → q.length = p.length → Sml True (R + 1) [line] words q → P us' (.new (.lst (q.map eRoom)))
theorem ok_kin {f : Addr} {fd : FuncData} (Fn : Fun K "_law_kin_plan" "_law_kin_plan" s_law_kin_plan f fd) (TX : TXF mg)
    (C_law_coin : Cal P w K mg base CX0 "_law_coin" 1 ["mint", "many"] (spM ⟨P, w, K⟩ SCoin)) (C_law_sign_of : Cal P w K mg base CX0 "_law_sign_of" 1 ["steps_here"] (spP ⟨P, w, K⟩ SSignL)) : FnOk P w K mg base CX0 2 f fd ["mint", "plan", "line", "words_here"] (spM ⟨P, w, K⟩ SKin) := by
  refine Fn.ok sc_law_kin_plan (fun vs H Q E h => ?_) (fun cdv A outer s H vs Q E hr h => ?_)
  · obtain ⟨F, m, ws, us, ts, rfl, _, _, _, hd, P, ⟨_, _, _, _, _, _, _, _, _, _, _, _, _, rfl, _⟩, _⟩ := h
    rw [List.length_cons, hd.length]; rfl
  · obtain ⟨F, m, ws, us, ts, rfl, fh, fm, hm, hd, PP, ⟨n0, R, p, line, words, hn0, hmint, hR, hp, hw0, hw1, hln, hwn, rfl, hk⟩, q⟩ := h
    have hu := hr.units
    have hz9 : (10000 : Nat) < sizeLine := by decide +kernel
    have hpl := hp.l
    have hp0 := List.length_pos_iff.mpr hp.n
    have hwp := List.length_pos_iff.mpr hw0
    refine ⟨_, (pss_cons (ps_set (i := 4) sc_law_kin_plan.nd rfl (Or.inl rfl) (pe_lst pa_nil))
    (pss_cons (ps_for PassesOwn.never rfl (pi_listB ⟨P, w, K⟩ rfl (pv 1)) (pg_name (i := 5) sc_law_kin_plan.nd rfl (Or.inl rfl)) (pss_cons (ps_set (i := 6) sc_law_kin_plan.nd rfl (Or.inl rfl) (pe_callTy (call_listB ⟨P, w, K⟩ rfl) (by rfl) TX.n_list (by decide +kernel) (pa_cons (pv 5) pa_nil)))
    (pss_cons (ps_for PassesOwn.never rfl (pi_range1 (by rfl) TX.n_range (pa_cons (pe_callTy (call_int1') (by rfl) TX.n_int (by decide +kernel) (pa_cons (pe_cmpR (op_eqB ⟨P, w, K⟩ rfl hu) (pe_call C_law_coin.ok (hr.mono (by decide)) (by rfl) C_law_coin.mg C_law_coin.kp C_law_coin.bd .nil pass0 (pa_cons (pv 0) (pa_cons pe_int pa_nil))) pe_int (nomark _)) pa_nil)) pa_nil)) (pg_name (i := 7) sc_law_kin_plan.nd rfl (Or.inl rfl)) (pss_cons (ps_asg (pe_tup (pa_cons (pe_ix (ix_B ⟨P, w, K⟩ rfl hu) (pv 3) (pe_call C_law_coin.ok (hr.mono (by decide)) (by rfl) C_law_coin.mg C_law_coin.kp C_law_coin.bd .nil pass0 (pa_cons (pv 0) (pa_cons (pe_callB (call_lenB ⟨P, w, K⟩ rfl hu) (by rfl) TX.n_len (by decide +kernel) (pa_cons (pv 3) pa_nil)) pa_nil))) (fun _ _ => rfl)) (pa_cons (pe_call C_law_sign_of.ok (hr.mono (by decide)) (by rfl) C_law_sign_of.mg C_law_sign_of.kp C_law_sign_of.bd .nil pass0 (pa_cons (pv 6) pa_nil)) pa_nil))) (pg_tupB ⟨P, w, K⟩ rfl 2 rfl (pgs_cons (pg_name (i := 8) sc_law_kin_plan.nd rfl (Or.inr rfl)) (pgs_cons (pg_name (i := 9) sc_law_kin_plan.nd rfl (Or.inl rfl)) pgs_nil))))
    (pss_cons (ps_setLc (i := 10) (own := [("step", 11)]) (by rfl) sc_law_kin_plan.nd rfl rfl (sw_true rfl rfl rfl (by decide +kernel)) (pi_listB ⟨P, w, K⟩ rfl (pv 6)) (blkOk_by (N := N_law_kin_plan) (sc := defScope s_law_kin_plan) (by decide +kernel)) (fun _ _ _ _ _ => (pg_name (i := 11) sc_law_kin_plan.nd rfl (Or.inl rfl))) (fun _ _ _ _ _ => (pts_one (pt_cmpR (op_neB ⟨P, w, K⟩ rfl hu) (pe_ix (ix_B ⟨P, w, K⟩ rfl hu) (pv 11) pe_int (fun _ _ => rfl)) (pv 8) (nomark _)))) (fun _ _ _ _ _ => (pv 11)))
    (pss_one (ps_if (PW.pt (pw_and (pt_cmpR op_uLt (pe_callB (call_lenB ⟨P, w, K⟩ rfl hu) (by rfl) TX.n_len (by decide +kernel) (pa_cons (pv 10) pa_nil)) (pe_callB (call_lenB ⟨P, w, K⟩ rfl hu) (by rfl) TX.n_len (by decide +kernel) (pa_cons (pv 6) pa_nil)) (nomark _)) (pw_and1 (pt_cmpR op_uGt (pe_callB (call_lenB ⟨P, w, K⟩ rfl hu) (by rfl) TX.n_len (by decide +kernel) (pa_cons (pv 10) pa_nil)) pe_int (nomark _))))) (pss_one (ps_set (i := 6) sc_law_kin_plan.nd rfl (Or.inl rfl) (pv 10))) (pss_one (ps_if (PW.pt (pw_and (pt_cmpR (op_neB ⟨P, w, K⟩ rfl hu) (pv 9) pe_str (nomark _)) (pw_and1 (pt_cmpR (op_eqB ⟨P, w, K⟩ rfl hu) (pe_callB (call_lenB ⟨P, w, K⟩ rfl hu) (by rfl) TX.n_len (by decide +kernel) (pa_cons (pv 10) pa_nil)) (pe_callB (call_lenB ⟨P, w, K⟩ rfl hu) (by rfl) TX.n_len (by decide +kernel) (pa_cons (pv 6) pa_nil)) (nomark _))))) (pss_one (ps_set (i := 6) sc_law_kin_plan.nd rfl (Or.inl rfl) (pe_op (op_addB ⟨P, w, K⟩ rfl) (pv 6) (pe_lst (pa_cons (pe_tup (pa_cons (pv 9) (pa_cons (pv 2) (pa_cons (pv 8) (pa_cons (pe_call C_law_coin.ok (hr.mono (by decide)) (by rfl) C_law_coin.mg C_law_coin.kp C_law_coin.bd .nil pass0 (pa_cons (pv 0) (pa_cons (pe_callB (call_lenB ⟨P, w, K⟩ rfl hu) (by rfl) TX.n_len (by decide +kernel) (pa_cons (pv 1) pa_nil)) pa_nil))) pa_nil))))) pa_nil))))) pss_nil)))))))
    (pss_one (ps_expr (pe_bm PySem.F.plainAttrs_list PySem.F.slot_list_append PySem.F.type_list_append mt_append (pv 4) (pa_cons (pv 6) pa_nil)))))))
    (pss_one (ps_ret (pv 4))))), ?_⟩
    refine run_M (n := 8) fh fm hm hd rfl q ?_
    dsimp only [cxOf]
    refine es_seq ?_
    refine es_asg (ev_lst (ea_nil ⟨[], rfl, (show 0 ≤ sizeLine by omega), fun pf => ?_⟩))
    refine gt_name all_in ?_
    refine es_seqJ (fun δ => ∃ (us' : OW) (q : Plan) (x5 x6 x7 x8 x9 x10 x11 : SV), Mint (n0 + 300) us' ∧ q.length = p.length ∧ (∀ x ∈ q, RoomK p.length (R + 1) line words x) ∧ δ = [.arg m us', .d (ePlan p), .d (.str line), .d (.lst (words.map .str)), .own pf (.lst (q.map eRoom)), x5, x6, x7, x8, x9, x10, x11]) ?_ ?_
    · refine es_forI (ei_L (ev_var (by rfl) ⟨_, Pu.d, ?_⟩))
      refine ⟨fun i δ => ∃ (us' : OW) (q : Plan) (x5 x6 x7 x8 x9 x10 x11 : SV), Mint (n0 + 3 * i) us' ∧ q.length = i ∧ (∀ x ∈ q, RoomK p.length (R + 1) line words x) ∧ δ = [.arg m us', .d (ePlan p), .d (.str line), .d (.lst (words.map .str)), .own pf (.lst (q.map eRoom)), x5, x6, x7, x8, x9, x10, x11], ⟨us, [], _, _, _, _, _, _, _, hmint, rfl, (fun _ h => nomatch h), rfl⟩, fun _ _ _ => trivial, ?_, ?_⟩
      · rintro i t δ hti ⟨us1, qq, x5, x6, x7, x8, x9, x10, x11, hm1, hql, hqk, rfl⟩
        rw [List.getElem?_map] at hti
        obtain ⟨r, hri, rfl⟩ := Option.map_eq_some_iff.mp hti
        have hrm := List.mem_of_getElem? hri
        have hib : i < p.length := (List.getElem?_eq_some_iff.mp hri).1
        obtain ⟨hrz, hrs, hrn⟩ := hp.g.2 r hrm
        have hr0 : RoomK p.length R line words r := ⟨hp.r r hrm, fun s hs => ⟨hrs s hs, List.mem_singleton.mp (hp.s r hrm s hs).1, (hp.s r hrm s hs).2⟩, hrn, hp.o trivial r hrm⟩
        refine gt_name all_in ?_
        refine es_seq ?_
        refine es_asg (ev_cb (ea_cons (ev_var (by rfl) ⟨_, Pu.d, ea_nil (oa_list LstV.d fun p1 => ?_)⟩)))
        refine gt_name all_in ?_
        refine es_frz (i := 6) (by rfl) rfl ?_
        refine es_seqJ (fun δ => ∃ (us' : OW) (x : Room) (x6 x7 x8 x9 x10 x11 : SV), Mint (n0 + 3 * i + 3) us' ∧ RoomK p.length (R + 1) line words x ∧ (x6 = .d (eRoom x) ∨ ∃ a, x6 = .own a (.lst (x.map eS))) ∧ δ = [.arg m us', .d (ePlan p), .d (.str line), .d (.lst (words.map .str)), .own pf (.lst (qq.map eRoom)), .d (eRoom r), x6, x7, x8, x9, x10, x11]) ?_ ?_
        · refine es_forI (ei_R (ea_cons (ev_cb (ea_cons (ev_op (ev_coin ?_))))))
          walk_at "e"
          refine ⟨_, us1, n0 + 3 * i, 3, rfl, rfl, hm1, by omega, by decide, small (by decide), fun us2 c hm2 hc1 hc2 => ⟨_, Pu.d, ?_⟩⟩
          refine ev_int ⟨_, Pu.d, o2_eqI ⟨_, Pu.d, ea_nil (oa_intB ⟨_, Pu.d, ea_nil ?_⟩)⟩⟩
          obtain ⟨b, hb, hb1⟩ : ∃ b : Nat, (if decide (c = 0) = true then (1 : Int) else 0) = b ∧ b ≤ 1 := by
            by_cases h : c = 0
            · exact ⟨1, by rw [decide_eq_true h]; rfl, Nat.le_refl _⟩
            · exact ⟨0, by rw [decide_eq_false h]; rfl, by decide⟩
          rw [hb]
          refine ⟨b, rfl, by omega, fun j δ => ∃ (us' : OW) (x : Room) (x6 x7 x8 x9 x10 x11 : SV), Mint (n0 + 3 * i + 1 + 2 * j) us' ∧ RoomK p.length (R + j) line words x ∧ (x6 = .d (eRoom x) ∨ (j ≠ 0 ∧ ∃ a, x6 = .own a (.lst (x.map eS)))) ∧ δ = [.arg m us', .d (ePlan p), .d (.str line), .d (.lst (words.map .str)), .own pf (.lst (qq.map eRoom)), .d (eRoom r), x6, x7, x8, x9, x10, x11], ⟨us2, r, _, _, _, _, _, _, hm2, hr0, .inl rfl, rfl⟩, fun _ _ _ => trivial, ?_, ?_⟩
          · rintro j t δ htj ⟨us3, x, x6, x7, x8, x9, x10, x11, hm3, hx, hx6, rfl⟩
            have hj : j = 0 := by
              have := (List.getElem?_eq_some_iff.mp htj).1
              simp at this; omega
            subst hj
            obtain rfl : x6 = .d (eRoom x) := hx6.elim id fun h => absurd rfl h.1
            have hxz := hx.l
            refine gt_name all_in ?_
            refine es_seq ?_
            refine es_asg (ev_tup (ea_cons (ev_op (ev_var (by rfl) ⟨_, Pu.d, ev_coin ?_⟩))))
            walk_at "e"
            refine ⟨_, us3, n0 + 3 * i + 1, _, rfl, rfl, hm3, by omega, by rw [List.length_map]; omega, small (by rw [List.length_map]; omega), fun us4 v1 hm4 hv1 hv2 => ⟨_, Pu.d, ?_⟩⟩
            rw [List.length_map] at hv2
            obtain ⟨v1, rfl⟩ := Int.eq_ofNat_of_zero_le hv1
            have hv1l : v1 < words.length := by omega
            refine uix_m (f := T.str) (l := words) LstV.d hv1l ⟨_, Pu.d, ?_⟩
            have hwm := List.getElem_mem hv1l
            generalize words[v1] = word at hwm
            have hwn1 := hwn _ hwm
            refine ea_cons (ev_callPn (ea_cons (ev_var (by rfl) ⟨_, Pu.d, ea_nil ⟨[eRoom x], rfl, x, hx.ok, rfl, ⟨_, Pu.d, ea_nil ?_⟩⟩⟩)))
            refine ⟨[.str word, .str (signL x)], rfl, (show 2 ≤ sizeLine by omega), ?_⟩
            refine gt_tup rfl (gts_cons (gt_name all_in (gts_cons (gt_name all_in (gts_nil ?_)))))
            refine es_seq ?_
            refine es_asg (ev_lcI (ei_L (ev_var (by rfl) ⟨_, Pu.d, ?_⟩)))
            refine ⟨by rw [List.length_map]; omega, fun u acc δ => acc = (notW (x.take u) word).map eS ∧ δ = [.arg m us4, .d (ePlan p), .d (.str line), .d (.lst (words.map .str)), .own pf (.lst (qq.map eRoom)), .d (eRoom r), .d (eRoom x), .d t, .d (.str word), .d (.str (signL x)), x10, .no], ⟨rfl, rfl⟩, fun _ _ _ _ => trivial, ?_, ?_⟩
            · rintro u tt acc δ htu _ ⟨rfl, rfl⟩
              rw [List.getElem?_map] at htu
              obtain ⟨st, hst, rfl⟩ := Option.map_eq_some_iff.mp htu
              have hstm := List.mem_of_getElem? hst
              have e : x.take (u + 1) = x.take u ++ [st] := by rw [List.take_add_one, hst]; rfl
              refine gt_name (by simp) ?_
              refine et_val (ev_op (ev_op (ev_var (by rfl) ⟨_, Pu.d, ev_int ⟨_, Pu.d, ?_⟩⟩)))
              refine uix_T (ts := [.str st.1, .str st.2.1, .str st.2.2.1, .int st.2.2.2]) (t := .str st.2.2.1) (by rfl) ⟨_, Pu.d, ev_var (by rfl) ⟨_, Pu.d, ?_⟩⟩
              refine o2_ne rfl rfl (txt_sh (hx.g st hstm).1.2.2.1.ok) (txt_sh hwn1.ok) (str_eqvL _ _) ⟨_, rfl, ?_⟩
              by_cases hw2 : st.2.2.1 = word
              · rw [decide_eq_true hw2]
                refine ite2 (fun h => nomatch h) (fun _ => ⟨?_, rfl⟩)
                rw [e]; simp [notW, List.filter_append, hw2]
              · rw [decide_eq_false hw2]
                refine ite2 (fun _ => ?_) (fun h => absurd rfl h)
                refine ev_var (by rfl) ⟨_, Pu.d, ?_, rfl⟩
                rw [e]; simp [notW, List.filter_append, hw2]
            rintro acc δ _ ⟨rfl, rfl⟩ p2
            rw [List.length_map, List.take_length]
            refine gt_name all_in ?_
            refine es_frz (i := 10) (by rfl) rfl ?_
            have hrest := hx.rest (word := word)
            refine es_if (EVT.imp (P := fun δ b => δ = [.arg m us4, .d (ePlan p), .d (.str line), .d (.lst (words.map .str)), .own pf (.lst (qq.map eRoom)), .d (eRoom r), .d (eRoom x), .d t, .d (.str word), .d (.str (signL x)), .d (eRoom (notW x word)), .no]) ?_ ?_)
            · refine et_and (et_val (ev_op (ev_cb (ea_cons (ev_var (by rfl) ⟨_, Pu.d, ea_nil (ulen_L LstV.d ⟨_, Pu.d, ev_cb (ea_cons (ev_var (by rfl) ⟨_, Pu.d, ea_nil (ulen_L LstV.d ⟨_, Pu.d, o2_ltI ⟨_, rfl, ?_⟩⟩)⟩))⟩)⟩)))))
              refine ite2 (fun _ => ?_) (fun _ => rfl)
              refine et_val (ev_op (ev_cb (ea_cons (ev_var (by rfl) ⟨_, Pu.d, ea_nil (ulen_L LstV.d ⟨_, Pu.d, ev_int ⟨_, Pu.d, o2_gtI ⟨_, rfl, rfl⟩⟩⟩)⟩))))
            · rintro δ b rfl
              refine ite2 (fun _ => ?_) (fun _ => ?_)
              · refine es_asg (ev_var (by rfl) (gt_name all_in ?_))
                exact ⟨us4, notW x word, _, _, _, _, _, _, hm4.mono (by omega), hrest.mono (by omega), .inl rfl, rfl⟩
              refine es_if (et_and (et_val (ev_op (ev_var (by rfl) ⟨_, Pu.d, ev_str ⟨_, Pu.d, ?_⟩⟩))))
              have sgl : SgnL (signL x) := signL_ok fun s hs => (hx.g s hs).1
              refine o2_ne rfl rfl sgl.sh (by decide +kernel) (str_eqvL _ _) ⟨_, rfl, ?_⟩
              have stay : ∃ (us' : OW) (y : Room) (x6 x7 x8 x9 x10 x11 : SV), Mint (n0 + 3 * i + 1 + 2 * (0 + 1)) us' ∧ RoomK p.length (R + (0 + 1)) line words y ∧ (x6 = .d (eRoom y) ∨ (0 + 1 ≠ 0 ∧ ∃ a, x6 = .own a (.lst (y.map eS)))) ∧ [SV.arg m us4, .d (ePlan p), .d (.str line), .d (.lst (words.map .str)), .own pf (.lst (qq.map eRoom)), .d (eRoom r), .d (eRoom x), .d t, .d (.str word), .d (.str (signL x)), .d (eRoom (notW x word)), .no] = [.arg m us', .d (ePlan p), .d (.str line), .d (.lst (words.map .str)), .own pf (.lst (qq.map eRoom)), .d (eRoom r), x6, x7, x8, x9, x10, x11] := ⟨us4, x, _, _, _, _, _, _, hm4.mono (by omega), hx.mono (by omega), .inl rfl, rfl⟩
              by_cases hsg : signL x = " "
              · rw [decide_eq_true hsg]
                refine ite2 (fun h => nomatch h) (fun _ => ?_)
                refine ite2 (fun h => nomatch h) (fun _ => ?_)
                exact es_next stay
              rw [decide_eq_false hsg]
              refine ite2 (fun _ => ?_) (fun h => absurd rfl h)
              refine et_val (ev_op (ev_cb (ea_cons (ev_var (by rfl) ⟨_, Pu.d, ea_nil (ulen_L LstV.d ⟨_, Pu.d, ev_cb (ea_cons (ev_var (by rfl) ⟨_, Pu.d, ea_nil (ulen_L LstV.d ⟨_, Pu.d, o2_eqI ⟨_, rfl, ?_⟩⟩)⟩))⟩)⟩))))
              rw [List.length_map, List.length_map]
              by_cases hsame : (notW x word).length = x.length
              · rw [decide_eq_true (by omega)]
                refine ite2 (fun _ => ?_) (fun h => absurd rfl h)
                refine es_asg (ev_op (ev_var (by rfl) ⟨_, Pu.d, ev_lst (ea_cons (ev_tup (ea_cons (ev_var (by rfl) ⟨_, Pu.d, ea_cons (ev_var (by rfl) ⟨_, Pu.d, ea_cons (ev_var (by rfl) ⟨_, Pu.d, ea_cons (ev_coin ?_)⟩)⟩)⟩))))⟩))
                walk_at "e"
                refine ⟨_, us4, n0 + 3 * i + 2, _, rfl, rfl, hm4, by omega, by rw [List.length_map]; omega, small (by rw [List.length_map]; omega), fun us5 gl hm5 hg1 hg2 => ⟨_, Pu.d, ?_⟩⟩
                rw [List.length_map] at hg2
                refine ea_nil ⟨[.str (signL x), .str line, .str word, .int gl], rfl, (show 4 ≤ sizeLine by omega), ⟨_, Pu.d, ea_nil ⟨[eS (signL x, line, word, gl)], rfl, (show 1 ≤ sizeLine by omega), fun p6 => ⟨_, Pu.fr, ?_⟩⟩⟩⟩
                refine o2_cat LstV.d LstV.d (by rw [List.length_map]; show _ + 1 ≤ _; omega) fun p7 => ?_
                refine gt_name all_in ?_
                exact ⟨us5, x ++ [(signL x, line, word, gl)], _, _, _, _, _, _, hm5.mono (by omega), hx.snoc rfl hsg (notW_all hsame) hln hwn1 hwm hg1 hg2, .inr ⟨by decide, p7, by rw [List.map_append]; rfl⟩, rfl⟩
              · rw [decide_eq_false (by omega)]
                refine ite2 (fun h => nomatch h) (fun _ => ?_)
                exact es_next stay
          · rintro δ ⟨us3, x, x6, x7, x8, x9, x10, x11, hm3, hx, hx6, rfl⟩
            have e0 : (List.map (fun k => T.int (k : Nat)) (List.range b)).length = b := by rw [List.length_map, List.length_range]
            rw [e0] at hm3 hx
            exact ⟨us3, x, x6, _, _, _, _, _, hm3.mono (by omega), hx.mono (by omega), hx6.imp id fun h => h.2, rfl⟩
        · rintro δ ⟨us3, x, x6, x7, x8, x9, x10, x11, hm3, hx, hx6, rfl⟩
          have hnew : ∀ y ∈ qq ++ [x], RoomK p.length (R + 1) line words y := fun y hy => by
            rcases List.mem_append.mp hy with hy | hy
            · exact hqk y hy
            · rw [List.mem_singleton.mp hy]; exact hx
          rcases hx6 with rfl | ⟨a, rfl⟩
          · refine es_append ?_
            walk_at "e"
            refine ⟨⟨_, 4, .inl rfl⟩, ?_⟩
            walk_at "e"
            refine appO 4 (ts := qq.map eRoom) rfl (by rw [List.length_map]; omega) ?_
            exact ⟨us3, qq ++ [x], _, _, _, _, _, _, _, hm3.mono (by omega), by rw [List.length_append, hql]; rfl, hnew, by rw [List.map_append]; rfl⟩
          · refine es_frz (i := 6) (by rfl) rfl ?_
            refine es_append ?_
            walk_at "e"
            refine ⟨⟨_, 4, .inl rfl⟩, ?_⟩
            walk_at "e"
            refine appO 4 (ts := qq.map eRoom) rfl (by rw [List.length_map]; omega) ?_
            exact ⟨us3, qq ++ [x], _, _, _, _, _, _, _, hm3.mono (by omega), by rw [List.length_append, hql]; rfl, hnew, by rw [List.map_append]; rfl⟩
      · rintro δ ⟨us1, qq, x5, x6, x7, x8, x9, x10, x11, hm1, hql, hqk, rfl⟩
        rw [List.length_map] at hm1 hql
        exact ⟨us1, qq, _, _, _, _, _, _, _, hm1.mono (by omega), hql, hqk, rfl⟩
    · rintro δ ⟨us1, qq, x5, x6, x7, x8, x9, x10, x11, hm1, hql, hqk, rfl⟩
      refine es_ret (ev_take (i := 4) (by rfl) ⟨us1, rfl, hk us1 qq hm1 hql ⟨⟨by rw [hql]; omega, fun x hx => ?_⟩, ?_, by omega, fun x hx => (hqk x hx).l, fun x hx s hs => ⟨by rw [((hqk x hx).g s hs).2.1]; exact List.mem_cons_self, ((hqk x hx).g s hs).2.2⟩, fun _ x hx => (hqk x hx).o⟩⟩)
      · have := hqk x hx
        rw [hql]
        exact ⟨by have := this.l; omega, fun s hs => (this.g s hs).1, this.k⟩
      · intro e; rw [e] at hql; simp at hql; omega
end
end K

namespace K
open PySem L2 DL PyProof.Rows
section
/-! ### what is shown -/
theorem okT_iff {x : Str} : okT x ↔ ∀ c ∈ x.cps.toList, c < 1114112 := by
  unfold okT PyData.strOk
  rw [← Array.all_toList, List.all_eq_true]
  simp
theorem showOk_of {d : PyData} (h1 : d.showable = true) (h2 : d.hasDict = false) (h3 : d.leavesShort 13 = true) (h4 : d.weight ≤ 2 ^ 20) (h5 : d.depth ≤ 62) : ShowOk d := ⟨h1, h2, PyData.shown_fits (B := 13) (by decide) (by decide) h3 h4, h5⟩
/-- a datum that can be shown, of weight at most n, of depth at most k -/
structure Shw (n k : Nat) (d : PyData) : Prop where
  a : d.showable = true
  b : d.hasDict = false
  c : d.leavesShort 13 = true
  w : d.weight ≤ n
  p : d.depth ≤ k
  l : leafOk d
theorem Shw.ok {n k : Nat} {d : PyData} (h : Shw n k d) (hn : n ≤ 2 ^ 20) (hk : k ≤ 62) : ShowOk d := showOk_of h.a h.b h.c (Nat.le_trans h.w hn) (Nat.le_trans h.p hk)
theorem Shw.mono {n m k l : Nat} {d : PyData} (h : Shw n k d) (hn : n ≤ m) (hk : k ≤ l) : Shw m l d := ⟨h.a, h.b, h.c, Nat.le_trans h.w hn, Nat.le_trans h.p hk, h.l⟩
theorem shw_str {x : Str} (h : okT x) : Shw x.length 0 (.str x) := by
  refine ⟨by simp [PyData.showable], by simp [PyData.hasDict], ?_, Nat.le_refl _, by simp [PyData.depth], by simp only [leafOk]; exact okT_iff.mp h⟩
  rw [PyData.leavesShort, List.all_eq_true]
  intro c hc
  have := okT_iff.mp h c hc
  simp; omega
theorem shw_name {x : Str} (h : IsName x) : Shw 8 0 (.str x) := (shw_str h.ok).mono (by
  have e : x.length = x.cps.toList.length := by simp [Str.length]
  have := h.2.1
  omega) (Nat.le_refl _)
theorem shws {n k : Nat} : ∀ {ds : List PyData}, (∀ d ∈ ds, Shw n k d) → PyData.showableAll ds = true ∧ PyData.hasDictAll ds = false ∧ PyData.leavesShortAll 13 ds = true ∧ PyData.weightAll ds ≤ (n + 1) * ds.length ∧ PyData.depthAll ds ≤ k
  | [], _ => ⟨rfl, rfl, rfl, Nat.zero_le _, Nat.zero_le _⟩
  | d :: ds, h => by
    obtain ⟨h1, h2, h3, h4, h5⟩ := shws fun x hx => h x (List.mem_cons_of_mem _ hx)
    have g := h d List.mem_cons_self
    refine ⟨by rw [PyData.showableAll, g.a, h1]; rfl, by rw [PyData.hasDictAll, g.b, h2]; rfl, by rw [PyData.leavesShortAll, g.c, h3]; rfl, ?_, ?_⟩
    · have := g.w
      rw [PyData.weightAll, List.length_cons, Nat.mul_succ]; omega
    · have := g.p
      rw [PyData.depthAll]; omega
theorem shw_lst {n k m : Nat} {ds : List PyData} (h : ∀ d ∈ ds, Shw n k d) (hl : ds.length ≤ m) : Shw ((n + 1) * m) (k + 1) (.list ds) := by
  obtain ⟨h1, h2, h3, h4, h5⟩ := shws h
  exact ⟨h1, h2, h3, Nat.le_trans h4 (Nat.mul_le_mul_left _ hl), by rw [PyData.depth]; omega, by simp only [leafOk]; exact leafOks_of fun d hd => (h d hd).l⟩
theorem shw_tup {n k m : Nat} {ds : List PyData} (h : ∀ d ∈ ds, Shw n k d) (hl : ds.length ≤ m) : Shw ((n + 1) * m) (k + 1) (.tuple ds) := by
  obtain ⟨h1, h2, h3, h4, h5⟩ := shws h
  exact ⟨h1, h2, h3, Nat.le_trans h4 (Nat.mul_le_mul_left _ hl), by rw [PyData.depth]; omega, by simp only [leafOk]; exact leafOks_of fun d hd => (h d hd).l⟩
/-- a key of a step, on names -/
def NameK (k : K3) : Prop := (k.1 = "!" ∨ k.1 = "?") ∧ IsName k.2.1 ∧ IsName k.2.2
theorem shw_key {k : K3} (h : NameK k) : Shw 27 1 (dK k) := by
  obtain ⟨h1, h2, h3⟩ := h
  refine (shw_tup (n := 8) (k := 0) (m := 3) (fun d hd => ?_) (Nat.le_refl _)).mono (by omega) (by omega)
  simp only [List.mem_cons, List.not_mem_nil, or_false] at hd
  rcases hd with rfl | rfl | rfl
  · exact (shw_str (x := k.1) (by rcases h1 with h | h <;> rw [h] <;> unfold okT <;> decide +kernel)).mono (by rcases h1 with h | h <;> rw [h] <;> decide +kernel) (Nat.le_refl _)
  · exact shw_name h2
  · exact shw_name h3
theorem shw_row {r : List K3} (h : ∀ k ∈ r, NameK k) (hl : r.length ≤ 20) : Shw 600 2 (.list (r.map dK)) :=
  (shw_lst (n := 27) (k := 1) (m := 20) (fun d hd => by obtain ⟨k, hk, rfl⟩ := List.mem_map.mp hd; exact shw_key (h k hk)) (by rw [List.length_map]; exact hl)).mono (by omega) (by omega)
end
/-! ### rooms of a service and of the plan that it was made of -/
section
theorem least_keys {p q : Plan} (h : LeastOf p q) (hg : GoodPlan p) (h0 : p ≠ []) : ∀ r ∈ q, ∃ r' ∈ p, (r.map kyOf).Perm (r'.map kyOf) := by
  obtain ⟨gs, re, _, hs, hc, hb, rfl⟩ := h.ex
  intro r hr
  obtain ⟨x, hx, rfl⟩ := List.mem_map.mp hr
  have h0' : ordered p ≠ [] := fun e => h0 (List.map_eq_nil_iff.mp e)
  have hxr := hb.range (ordered_tgt hg) h0' x hx
  obtain ⟨r', hr', hp⟩ := ordered_mem (rm_mem hxr.1 hxr.2)
  refine ⟨r', hr', ?_⟩
  rw [List.map_map]
  exact hp.map kyOf
/-- a plan on one line, each room of one sign -/
structure Lone (line : Str) (R : Nat) (p : Plan) : Prop where
  g : GoodPlan p
  n : p ≠ []
  l : p.length ≤ 100
  r : ∀ r ∈ p, r.length ≤ R
  s : ∀ r ∈ p, ∀ s ∈ r, s.2.1 = line
  o : ∀ r ∈ p, ∀ s ∈ r, ∀ t ∈ r, s.1 = t.1
theorem Sml.lone {R : Nat} {line : Str} {W : List Str} {p : Plan} (h : Sml True R [line] W p) : Lone line R p := ⟨h.g, h.n, h.l, h.r, fun r hr s hs => List.mem_singleton.mp (h.s r hr s hs).1, h.o trivial⟩
theorem good_sgn {p : Plan} (h : GoodPlan p) : PlainG p := ⟨h, fun r hr => by
  cases r with
  | nil => exact .inr (.inr rfl)
  | cons s r => rcases ((h.2 _ hr).2.1 s List.mem_cons_self).1 with e | e; exact .inl e; exact .inr (.inl e)⟩
/-- what a service of such a plan is -/
structure SvOf (line : Str) (p q : Plan) : Prop where
  g : PlainG q
  pl : PlainP q
  ol : OneLine line q
  n : q ≠ []
  l : q.length ≤ 300
  so : SortK klt q
  same : Same q 0 p 0
  keys : ∀ r ∈ q, ∃ r' ∈ p, ∀ k, k ∈ r.map kyOf ↔ k ∈ r'.map kyOf
theorem Lone.sv {line : Str} {R : Nat} {p q : Plan} (h : Lone line R p) (hq : LeastOf p q) : SvOf line p q := by
  obtain ⟨gq, nq, lq⟩ := hq.good h.g h.n
  have il := hq.isLeast h.g h.n
  have hk := least_keys hq h.g h.n
  have key : ∀ r ∈ q, ∀ s ∈ r, ∃ r' ∈ p, (∀ k, k ∈ r.map kyOf ↔ k ∈ r'.map kyOf) ∧ ∃ s' ∈ r', kyOf s' = kyOf s := fun r hr s hs => by
    obtain ⟨r', hr', hp⟩ := hk r hr
    obtain ⟨s', hs', e⟩ := List.mem_map.mp (hp.mem_iff.mp (List.mem_map.mpr ⟨s, hs, rfl⟩))
    exact ⟨r', hr', fun k => hp.mem_iff, s', hs', e⟩
  have ol : OneLine line q := fun x hx => by
    unfold linesP at hx
    obtain ⟨l, hl, hx⟩ := List.mem_flatten.mp hx
    obtain ⟨r, hr, rfl⟩ := List.mem_map.mp hl
    obtain ⟨s, hs, rfl⟩ := List.mem_map.mp hx
    obtain ⟨r', hr', _, s', hs', e⟩ := key r hr s hs
    have e2 : s'.2.1 = s.2.1 := congrArg (fun k : K3 => k.2.1) e
    rw [← e2]; exact h.s r' hr' s' hs'
  refine ⟨good_sgn gq, ⟨fun r hr a ha b hb => ?_, fun a ha b hb => by rw [ol a ha, ol b hb]⟩, ol, nq, by have := h.l; omega, il.srt, il.same, fun r hr => ?_⟩
  · obtain ⟨s, hs, rfl⟩ := List.mem_map.mp ha
    obtain ⟨t, ht, rfl⟩ := List.mem_map.mp hb
    obtain ⟨r', hr', hp⟩ := hk r hr
    obtain ⟨s', hs', e1⟩ := List.mem_map.mp (hp.mem_iff.mp (List.mem_map.mpr ⟨s, hs, rfl⟩))
    obtain ⟨t', ht', e2⟩ := List.mem_map.mp (hp.mem_iff.mp (List.mem_map.mpr ⟨t, ht, rfl⟩))
    have e3 : s'.1 = s.1 := congrArg (fun k : K3 => k.1) e1
    have e4 : t'.1 = t.1 := congrArg (fun k : K3 => k.1) e2
    rw [← e3, ← e4]; exact h.o r' hr' s' hs' t' ht'
  · obtain ⟨r', hr', hp⟩ := hk r hr
    exact ⟨r', hr', fun k => hp.mem_iff⟩
/-- standing is told by the keys alone -/
theorem sign_eq {r r' : Room} (o : ∀ s ∈ r', ∀ t ∈ r', s.1 = t.1) (h : ∀ k, k ∈ r.map kyOf ↔ k ∈ r'.map kyOf) : (r = [] ↔ r' = []) ∧ (r ≠ [] → signR r = signL r') := by
  have e : r = [] ↔ r' = [] := by
    constructor
    · rintro rfl
      cases r' with
      | nil => rfl
      | cons s r' => have := (h (kyOf s)).mpr List.mem_cons_self; cases this
    · rintro rfl
      cases r with
      | nil => rfl
      | cons s r => have := (h (kyOf s)).mp List.mem_cons_self; cases this
  refine ⟨e, fun hne => ?_⟩
  match r, r', hne, h, o, e with
  | [], _, hne, _, _, _ => exact absurd rfl hne
  | s :: r, [], _, _, _, e => exact absurd (e.mpr rfl) (by simp)
  | s :: r, t :: r', _, h, o, _ =>
    obtain ⟨u, hu, e2⟩ := List.mem_map.mp ((h (kyOf s)).mp List.mem_cons_self)
    have e3 : u.1 = s.1 := congrArg (fun k : K3 => k.1) e2
    show s.1 = t.1
    rw [← e3]; exact o u hu t List.mem_cons_self
theorem hasB_iff {r t : Room} (nr : (r.map kyOf).Nodup) : hasB r t = true ↔ ∀ k ∈ t.map kyOf, k ∈ r.map kyOf := by
  unfold hasB
  rw [List.all_eq_true]
  constructor
  · intro h k hk
    obtain ⟨s, hs, rfl⟩ := List.mem_map.mp hk
    exact (key_mem nr _).mpr (h _ (List.mem_map.mpr ⟨s, hs, rfl⟩))
  · intro h b hb
    obtain ⟨s, hs, rfl⟩ := List.mem_map.mp hb
    exact (key_mem nr _).mp (h _ (List.mem_map.mpr ⟨s, hs, rfl⟩))
theorem stands_same {r t r' t' : Room} (nr : (r.map kyOf).Nodup) (nt : (t.map kyOf).Nodup) (or' : ∀ s ∈ r', ∀ u ∈ r', s.1 = u.1) (ot' : ∀ s ∈ t', ∀ u ∈ t', s.1 = u.1) (gr : ∀ s ∈ r', s.1 = "!" ∨ s.1 = "?") (gt : ∀ s ∈ t', s.1 = "!" ∨ s.1 = "?")
    (hr : ∀ k, k ∈ r.map kyOf ↔ k ∈ r'.map kyOf) (ht : ∀ k, k ∈ t.map kyOf ↔ k ∈ t'.map kyOf) : standsB t r = standsL r' t' := by
  obtain ⟨er, sr⟩ := sign_eq or' hr
  obtain ⟨et, st⟩ := sign_eq ot' ht
  have sg : ∀ z : Room, (∀ s ∈ z, s.1 = "!" ∨ s.1 = "?") → z ≠ [] → signL z ≠ " " ∧ signL z ≠ "" := fun z hz hne => by
    cases z with
    | nil => exact absurd rfl hne
    | cons s z => rcases hz s List.mem_cons_self with e | e <;> (show s.1 ≠ _ ∧ s.1 ≠ _) <;> rw [e] <;> decide +kernel
  have eq1 : (signR t = signR r) ↔ (signL r' = signL t') := by
    by_cases h1 : r = []
    · have h1' := er.mp h1
      subst h1; subst h1'
      by_cases h2 : t = []
      · have h2' := et.mp h2
        subst h2; subst h2'
        exact ⟨fun _ => rfl, fun _ => rfl⟩
      · have h2' : t' ≠ [] := fun e => h2 (et.mpr e)
        rw [st h2]
        exact ⟨fun e => absurd e (sg t' gt h2').2, fun e => absurd e.symm (sg t' gt h2').1⟩
    · have h1' : r' ≠ [] := fun e => h1 (er.mpr e)
      rw [sr h1]
      by_cases h2 : t = []
      · have h2' := et.mp h2
        subst h2; subst h2'
        exact ⟨fun e => absurd e.symm (sg r' gr h1').2, fun e => absurd e (sg r' gr h1').1⟩
      · rw [st h2]; exact ⟨Eq.symm, Eq.symm⟩
  have eq2 : signR r = "?" ↔ signL r' = "?" := by
    by_cases h1 : r = []
    · have h1' := er.mp h1
      subst h1; subst h1'
      exact ⟨fun e => absurd e (by decide +kernel), fun e => absurd e (by decide +kernel)⟩
    · rw [sr h1]
  unfold standsB standsL
  rw [Bool.eq_iff_iff, Bool.and_eq_true, Bool.and_eq_true, decide_eq_true_eq, decide_eq_true_eq, decide_eq_true_eq, lessK_nil, eq1]
  refine and_congr_right fun _ => ?_
  unfold fewL manyL
  by_cases e : signL r' = "?"
  · rw [if_pos e, if_pos e, if_pos (eq2.mpr e), hasB_iff nt]
    exact ⟨fun h k hk => keysOf_mem.mpr ((ht k).mp (h k ((hr k).mpr (keysOf_mem.mp hk)))), fun h k hk => (ht k).mpr (keysOf_mem.mp (h k (keysOf_mem.mpr ((hr k).mp hk))))⟩
  · rw [if_neg e, if_neg e, if_neg (fun z => e (eq2.mp z)), hasB_iff nr]
    exact ⟨fun h k hk => keysOf_mem.mpr ((hr k).mp (h k ((ht k).mpr (keysOf_mem.mp hk)))), fun h k hk => (hr k).mpr (keysOf_mem.mp (h k (keysOf_mem.mpr ((ht k).mp hk))))⟩
/-- the pairs that rows of two services lead to -/
theorem run_prun {q1 q2 : Plan} (n1 : NodK q1) (n2 : NodK q2) {r : List K3} {c : Duo} : BF.Run (waysP q1 q2) (0, 0) r c ↔ PRun q1 q2 r c := by
  constructor
  · intro h
    induction h with
    | nil => exact ⟨rfl, rfl⟩
    | @snoc r p q k h m ih =>
      obtain ⟨s, hs, e1, e2, e3⟩ := mem_sharedW m
      have e1 : k = kyOf s := e1
      refine PRun.snoc.mpr ⟨p, ih, ?_, ?_⟩
      · rw [e1, ways_get (rm_nod n1 p.1) hs, e2]
      · rw [e1, e3]
  · intro h
    generalize hn : r.length = n
    induction n generalizing r c with
    | zero =>
      obtain rfl := List.length_eq_zero_iff.mp hn
      obtain ⟨h1, h2⟩ := h
      have e1 : (0 : Int) = c.1 := Option.some.inj h1
      have e2 : (0 : Int) = c.2 := Option.some.inj h2
      have : c = (0, 0) := Prod.ext e1.symm e2.symm
      rw [this]; exact .nil
    | succ n ih =>
      rcases BF.snoc_or r with rfl | ⟨r', k, rfl⟩
      · simp at hn
      · obtain ⟨d, hd, h1, h2⟩ := PRun.snoc.mp h
        refine (ih hd (by simpa using hn)).snoc ?_
        obtain ⟨s, hs, e1, e2⟩ := (way_iff (rm_nod n1 d.1) k c.1).mp h1
        refine List.mem_filterMap.mpr ⟨s, hs, ?_⟩
        rw [e1, h2, e2]; rfl
theorem parts_tried {line : Str} {R R' : Nat} {p1 p2 q1 q2 : Plan} (l1 : Lone line R p1) (l2 : Lone line R' p2) (t1 : PlanT p1) (t2 : PlanT p2) (s1 : SvOf line p1 q1) (s2 : SvOf line p2 q2) {res due : Option (List K3)} (hr : Parts q1 q2 res) (hd : Tried p1 p2 (goodL p1 p2) 5 due) :
    (∀ r, due = some r → res = some r) ∧ (due = none → ∀ r, res = some r → 5 ≤ r.length) := by
  have n1 := s1.g.g.nodk
  have n2 := s2.g.g.nodk
  have tq : ∀ {q : Plan}, GoodPlan q → Tgt q := fun {q} h r hr s hs => by
    have := (h.2 r hr).2.1 s hs
    exact ⟨this.2.2.2.1, this.2.2.2.2⟩
  -- what is sought, there and here
  have corr : ∀ r, (∃ c, BF.Run (waysP q1 q2) (0, 0) r c ∧ standsB (rm q2 c.2) (rm q1 c.1) = false) ↔ ∃ d, PRun p1 p2 r d ∧ ¬ goodL p1 p2 d := fun r => by
    obtain ⟨a1, b1⟩ := s1.same.at t1.tgt t1.g.nodk (tq s1.g.g) n1 t1.n s1.n r
    obtain ⟨a2, b2⟩ := s2.same.at t2.tgt t2.g.nodk (tq s2.g.g) n2 t2.n s2.n r
    have pair : ∀ c d, PRun q1 q2 r c → PRun p1 p2 r d → (standsB (rm q2 c.2) (rm q1 c.1) = false ↔ ¬ goodL p1 p2 d) := fun c d hc hd => by
      have k1 := b1 c.1 d.1 hc.1 hd.1
      have k2 := b2 c.2 d.2 hc.2 hd.2
      have i1 := t1.run hd.1
      have i2 := t2.run hd.2
      have m1 := rm_mem i1.1 i1.2
      have m2 := rm_mem i2.1 i2.2
      have ks : ∀ {x y : Room}, (x.map kyOf).Nodup → (y.map kyOf).Nodup → (∀ k, (getM (ways x) k).isSome = (getM (ways y) k).isSome) → ∀ k, k ∈ x.map kyOf ↔ k ∈ y.map kyOf := fun {x y} nx ny h k => by rw [key_mem nx, key_mem ny, h]
      have e := stands_same (r := rm q1 c.1) (t := rm q2 c.2) (r' := rm p1 d.1) (t' := rm p2 d.2) (rm_nod n1 _) (rm_nod n2 _) (l1.o _ m1) (l2.o _ m2) (fun s hs => ((t1.g.2 _ m1).2.1 s hs).1) (fun s hs => ((t2.g.2 _ m2).2.1 s hs).1) (ks (rm_nod n1 _) (rm_nod t1.g.nodk _) k1) (ks (rm_nod n2 _) (rm_nod t2.g.nodk _) k2)
      rw [e]
      unfold goodL
      cases standsL (rm p1 d.1) (rm p2 d.2) <;> simp
    constructor
    · rintro ⟨c, hc, hb⟩
      have hc := (run_prun n1 n2).mp hc
      have h1 : (runI p1 0 r).isSome = true := by rw [← a1, hc.1]; rfl
      have h2 : (runI p2 0 r).isSome = true := by rw [← a2, hc.2]; rfl
      obtain ⟨x, hx⟩ := Option.isSome_iff_exists.mp h1
      obtain ⟨y, hy⟩ := Option.isSome_iff_exists.mp h2
      exact ⟨(x, y), ⟨hx, hy⟩, (pair c (x, y) hc ⟨hx, hy⟩).mp hb⟩
    · rintro ⟨d, hd, hb⟩
      have h1 : (runI q1 0 r).isSome = true := by rw [a1, hd.1]; rfl
      have h2 : (runI q2 0 r).isSome = true := by rw [a2, hd.2]; rfl
      obtain ⟨x, hx⟩ := Option.isSome_iff_exists.mp h1
      obtain ⟨y, hy⟩ := Option.isSome_iff_exists.mp h2
      exact ⟨(x, y), (run_prun n1 n2).mpr ⟨hx, hy⟩, (pair (x, y) d ⟨hx, hy⟩ hd).mpr hb⟩
  refine ⟨fun r hdr => ?_, fun hdn r hrr => ?_⟩
  · subst hdr
    obtain ⟨_, hb, hm⟩ := hd
    cases res with
    | none =>
      obtain ⟨c, hc, hcb⟩ := (corr r).mpr hb
      exact absurd hcb (hr r c hc)
    | some r2 =>
      obtain ⟨hb2, hm2⟩ := hr
      rcases BF.sl_tot klt_ord r r2 with h | h | h
      · obtain ⟨c, hc, hcb⟩ := (corr r).mpr hb
        exact absurd h (hm2 r c hc hcb)
      · rw [h]
      · obtain ⟨d, hd2, hdb⟩ := (corr r2).mp hb2
        exact absurd h (hm r2 d hd2 hdb)
  · subst hdn
    subst hrr
    obtain ⟨hb2, _⟩ := hr
    obtain ⟨d, hd2, hdb⟩ := (corr r).mp hb2
    exact Nat.le_of_not_lt fun h => hdb (hd r d h hd2)
end
end K

namespace K
open PySem L2 DL
local macro_rules | `(tactic| walk_at "dl") => `(tactic| with_reducible first
  | refine es_if ?_ | refine es_append ?_ | refine es_sub ?_ | refine es_par3 ?_ | refine es_parD ?_ | refine es_asg ?_ | refine es_ret ?_ | refine es_retN ?_ | refine es_next ?_ | refine es_drop ?_ | refine es_break ?_ | refine es_cont ?_
  | refine et_val ?_ | refine et_B ?_ | refine et_not ?_ | refine et_and ?_ | refine et_or ?_ | refine et_yes ?_
  | refine ev_op ?_ | refine ev_un ?_ | refine ev_cb ?_ | refine ev_tup ?_ | refine ev_lst ?_ | refine ev_ifx ?_ | refine ev_andV ?_ | refine ev_orV ?_ | refine ev_notV ?_ | refine ev_sl ?_
  | refine ea_cons ?_ | refine ea_nil ?_ | refine ev_int ?_ | refine ev_str ?_ | refine ev_bl ?_ | refine ev_non ?_ | refine eo_none ?_ | refine eo_some ?_
  | refine gts_cons ?_ | refine gts_nil ?_
  | refine o2_addI ?_ | refine o2_ltI ?_ | refine o2_leI ?_ | refine o2_gtI ?_ | refine o2_geI ?_ | refine o2_ltS ?_ | refine o2_leS ?_ | refine o2_gtS ?_ | refine o2_sub ?_
  | refine oa_intI ?_ | refine oa_intB ?_ | refine oa_abs ?_ | refine oa_two ?_ | refine ulen_R ?_ | refine ulen_T ?_ | refine ulen_L LstV.d ?_
  | (refine ⟨_, Pu.d, ?_⟩) | (refine ⟨_, Pu.ptr, ?_⟩) | (refine ⟨_, Pu.fr, ?_⟩))
local macro_rules | `(tactic| walk_at "dv") => `(tactic| first
  | refine ev_var (by rfl) ?_ | refine ev_ptr (.inl (by rfl)) ?_ | refine ev_ptr (.inr (.inl (by rfl))) ?_ | refine ev_ptr (.inr (.inr (by rfl))) ?_
  | refine uix_L (LstV.o ⟨0, .inr (by rfl)⟩) (by rfl) ?_ | refine uix_L LstV.d (by rfl) ?_ | refine uix_T (by rfl) ?_
  | refine gt_tup (by rfl) ?_ | refine gt_name (by first | exact all_in | simp) ?_ | refine ⟨_, rfl, ?_⟩)
local macro_rules | `(tactic| walk_at "e") => `(tactic| repeat (first | walk_at "dl" | walk_at "dv"))
local macro_rules | `(tactic| walk_at "d") => `(tactic| repeat (first | with_reducible refine es_seq ?_ | walk_at "dl" | walk_at "dv"))
section
variable {P : Program} {w : World} {K : PySem.W.Frag} {mg : Str → Option Value} {base : Heap}
theorem run_names {p : Plan} (hp : PlanT p) {r : List K3} {i : Int} (h : runI p 0 r = some i) : ∀ k ∈ r, NameK k := by
  generalize hn : r.length = n
  induction n generalizing r i with
  | zero =>
    obtain rfl := List.length_eq_zero_iff.mp hn
    exact fun k hk => nomatch hk
  | succ n ih =>
    rcases BF.snoc_or r with rfl | ⟨r', k, rfl⟩
    · simp at hn
    · rw [runI_snoc] at h
      obtain ⟨j, hj, hk⟩ := Option.bind_eq_some_iff.mp h
      have i1 := hp.run hj
      obtain ⟨s, hs, e, _⟩ := (way_iff (rm_nod hp.g.nodk j) k i).mp hk
      have g := (hp.g.2 _ (rm_mem i1.1 i1.2)).2.1 s hs
      intro k' hk'
      rcases List.mem_append.mp hk' with h' | h'
      · exact ih hj (by simpa using hn) k' h'
      · rw [List.mem_singleton.mp h', ← e]; exact ⟨g.1, g.2.1, g.2.2.1⟩
theorem Sml.planT {R : Nat} {line : Str} {W : List Str} {p : Plan} (h : Sml True R [line] W p) (hR : R ≤ 5) : PlanT p := ⟨h.g, h.n, fun r hr => Nat.le_trans (h.r r hr) hR⟩
theorem es_frzOr {c : Cn} {t : TS} {δ : List SV} {R : DEnds} {i : Nat} {u : T} (h : δ[i]? = some (.d u) ∨ ∃ (a : Addr) (o : OW), δ[i]? = some (.own a o) ∧ o.fr = some u) (k : ES c t (δ.set i (.d u)) R) : ES c t δ R := by
  rcases h with h | ⟨a, o, h, hf⟩
  · obtain ⟨hi, e⟩ := List.getElem?_eq_some_iff.mp h
    rw [← e, List.set_getElem_self] at k
    exact k
  · exact es_frz h hf k
abbrev s_law_fits : Stmt := topS 54
abbrev N_law_fits : List Str := ["mint", "names_here", "words_here", "plan", "mate", "first", "second", "due", "told"]
theorem sc_law_fits : FnScope N_law_fits ["mint"] (defScope s_law_fits) := ⟨rfl, rfl, rfl, by decide +kernel, rfl, by decide +kernel, by decide +kernel⟩

def SFits : OW → List T → (OW → RT → Prop) → Prop := fun us ts P => ∃ n : Nat, n ≤ 50000 ∧ Mint n us ∧ ts = [] ∧ ∀ us', Mint (n + 5000) us' → P us' (.d (.bl true))
theorem ok_fits {f C tP : Addr} {fd : FuncData} (Fn : Fun K "_law_fits" "_law_fits" s_law_fits f fd) (TX : TXF mg)
    (C_law_coin : Cal P w K mg base CX0 "_law_coin" 1 ["mint", "many"] (spM ⟨P, w, K⟩ SCoin))
    (C_law_labels : Cal P w K mg base CX0 "_law_labels" 2 ["mint", "many"] (spM ⟨P, w, K⟩ SLabels))
    (C_law_plan_of : Cal P w K mg base CX0 "_law_plan_of" 3 ["mint", "most", "lines_here", "words_here", "one_sign"] (spM ⟨P, w, K⟩ SPlanOfL))
    (C_law_kin_plan : Cal P w K mg base CX0 "_law_kin_plan" 2 ["mint", "plan", "line", "words_here"] (spM ⟨P, w, K⟩ SKin))
    (C_law_bent_plan : Cal P w K mg base CX0 "_law_bent_plan" 2 ["mint", "plan", "lines_here", "words_here"] (spM ⟨P, w, K⟩ SBent))
    (C_law_tried : Cal P w K mg base CX0 "_law_tried" 3 ["base", "mate"] (spP ⟨P, w, K⟩ STried))
    (C_law_made_service : Cal P w K mg base CX0 "_law_made_service" 6 ["plan"] (spP ⟨P, w, K⟩ (SMade C)))
    (C_parting_talk : Cal P w K mg base CX0 "parting_talk" 6 ["other", "one"] (spT ⟨P, w, K⟩ [tP] (SParting C))) :
    FnG P w K mg base 8 f fd ["mint"] (spMT ⟨P, w, K⟩ [tP] SFits) := by
  refine FnG.make Fn sc_law_fits (fun vs H Q E h => ?_) (fun cdv A outer s H vs Q E gd hr h => ?_)
  · obtain ⟨F, m, ws, us, ts, rfl, _, _, _, _, hd, _, P, ⟨_, _, _, rfl, _⟩, _⟩ := h
    rw [List.length_cons, hd.length]; rfl
  · obtain ⟨F, m, ws, us, ts, rfl, fh, fm, nm, hm, hd, hT, PP, ⟨n0, hn0, hmint, rfl, hk⟩, q⟩ := h
    have hu := hr.units
    have hz9 : (1000 : Nat) < sizeLine := by decide +kernel
    refine ⟨_, (pss_cons (ps_set (i := 1) sc_law_fits.nd rfl (Or.inl rfl) (pe_call C_law_labels.ok (hr.mono (by decide)) (by rfl) C_law_labels.mg C_law_labels.kp C_law_labels.bd .nil pass0 (pa_cons (pv 0) (pa_cons pe_int pa_nil))))
    (pss_cons (ps_set (i := 2) sc_law_fits.nd rfl (Or.inl rfl) (pe_slice (sl_B ⟨P, w, K⟩ rfl) (pv 1) (po_some pe_int) po_none))
    (pss_cons (ps_set (i := 3) sc_law_fits.nd rfl (Or.inl rfl) (pe_call C_law_plan_of.ok (hr.mono (by decide)) (by rfl) C_law_plan_of.mg C_law_plan_of.kp C_law_plan_of.bd .nil pass0 (pa_cons (pv 0) (pa_cons pe_int (pa_cons (pe_slice (sl_B ⟨P, w, K⟩ rfl) (pv 1) po_none (po_some pe_int)) (pa_cons (pv 2) (pa_cons pe_bl pa_nil)))))))
    (pss_cons (ps_set (i := 4) sc_law_fits.nd rfl (Or.inl rfl) (pe_call C_law_kin_plan.ok (hr.mono (by decide)) (by rfl) C_law_kin_plan.mg C_law_kin_plan.kp C_law_kin_plan.bd .nil pass0 (pa_cons (pv 0) (pa_cons (pv 3) (pa_cons (pe_ix (ix_B ⟨P, w, K⟩ rfl hu) (pv 1) pe_int (fun _ _ => rfl)) (pa_cons (pv 2) pa_nil))))))
    (pss_cons (ps_if (pt_cmpR (op_eqB ⟨P, w, K⟩ rfl hu) (pe_call C_law_coin.ok (hr.mono (by decide)) (by rfl) C_law_coin.mg C_law_coin.kp C_law_coin.bd .nil pass0 (pa_cons (pv 0) (pa_cons pe_int pa_nil))) pe_int (nomark _)) (pss_one (ps_set (i := 4) sc_law_fits.nd rfl (Or.inl rfl) (pe_call C_law_bent_plan.ok (hr.mono (by decide)) (by rfl) C_law_bent_plan.mg C_law_bent_plan.kp C_law_bent_plan.bd .nil pass0 (pa_cons (pv 0) (pa_cons (pv 4) (pa_cons (pe_slice (sl_B ⟨P, w, K⟩ rfl) (pv 1) po_none (po_some pe_int)) (pa_cons (pv 2) pa_nil))))))) pss_nil)
    (pss_cons (ps_for PassesOwn.never rfl (pi_tupB ⟨P, w, K⟩ rfl (pe_tup (pa_cons (pe_tup (pa_cons (pv 3) (pa_cons (pv 4) pa_nil))) (pa_cons (pe_tup (pa_cons (pv 4) (pa_cons (pv 3) pa_nil))) pa_nil)))) (pg_tupB ⟨P, w, K⟩ rfl 2 rfl (pgs_cons (pg_name (i := 5) sc_law_fits.nd rfl (Or.inl rfl)) (pgs_cons (pg_name (i := 6) sc_law_fits.nd rfl (Or.inl rfl)) pgs_nil))) (pss_cons (ps_par (i := 7) (j := 8) (by rfl) sc_law_fits.nd rfl rfl (by decide) rfl rfl (pa_cons (pe_call C_law_tried.ok (hr.mono (by decide)) (by rfl) C_law_tried.mg C_law_tried.kp C_law_tried.bd .nil pass0 (pa_cons (pv 5) (pa_cons (pv 6) pa_nil))) (pa_cons (pe_call C_parting_talk.ok (hr.mono (by decide)) (by rfl) C_parting_talk.mg C_parting_talk.kp C_parting_talk.bd .nil pass0 (pa_cons (pe_call C_law_made_service.ok (hr.mono (by decide)) (by rfl) C_law_made_service.mg C_law_made_service.kp C_law_made_service.bd .nil pass0 (pa_cons (pv 6) pa_nil)) (pa_cons (pe_call C_law_made_service.ok (hr.mono (by decide)) (by rfl) C_law_made_service.mg C_law_made_service.kp C_law_made_service.bd .nil pass0 (pa_cons (pv 5) pa_nil)) pa_nil))) pa_nil)) (by rfl))
    (pss_cons (ps_if (PW.pt (pw_and (pt_cmpR op_notN (pv 7) pe_non (nomark _)) (pw_and1 (pt_cmpR op_ne (pe_callB (call_reprB ⟨P, w, K⟩ rfl gd hu) (by rfl) TX.n_repr (by decide +kernel) (pa_cons (pv 8) pa_nil)) (pe_callB (call_reprB ⟨P, w, K⟩ rfl gd hu) (by rfl) TX.n_repr (by decide +kernel) (pa_cons (pv 7) pa_nil)) (nomark _))))) (pss_one (ps_ret pe_bl)) pss_nil)
    (pss_one (ps_if (PW.pt (pw_and (pt_cmpR op_isN (pv 7) pe_non (nomark _)) (pw_and (pt_cmpR op_notN (pv 8) pe_non (nomark _)) (pw_and1 (pt_cmpR op_uLt (pe_callB (call_lenB ⟨P, w, K⟩ rfl hu) (by rfl) TX.n_len (by decide +kernel) (pa_cons (pv 8) pa_nil)) pe_int (nomark _)))))) (pss_one (ps_ret pe_bl)) pss_nil)))))
    (pss_one (ps_ret pe_bl)))))))), ?_⟩
    refine run_MT (n := 8) fh fm nm hm hd hT rfl q ?_
    dsimp only [cxOf]
    refine es_seq ?_
    refine es_asg (ev_callM ?_)
    walk_at "e"
    refine ⟨_, [.int 4], rfl, 0, us, fun us' z => ∃ ls : List Str, Mint (n0 + 13) us' ∧ ls.length = 4 ∧ (∀ x ∈ ls, IsName x) ∧ z = .new (.lst (ls.map .str)), ⟨n0, 4, by omega, hmint, by omega, by omega, rfl, fun us' ls h1 h2 h3 _ => ⟨ls, h1, h2, h3, rfl⟩⟩, .inr ⟨rfl, ?_⟩⟩
    rintro us1 _ ⟨ls, hm1, hls, hln, rfl⟩ p1
    obtain ⟨line, words, rfl⟩ : ∃ x xs, ls = x :: xs := by
      cases ls with
      | nil => simp at hls
      | cons x xs => exact ⟨x, xs, rfl⟩
    have hw3 : words.length = 3 := by simpa using hls
    have hlnl := hln line List.mem_cons_self
    have hwn : ∀ x ∈ words, IsName x := fun x hx => hln x (List.mem_cons_of_mem _ hx)
    have hw0 : words ≠ [] := List.ne_nil_of_length_pos (by omega)
    have cd1 : ∀ xs : List T, cutG xs (some 1) none = xs.drop 1 := fun xs => cut_drop xs 1
    have ct1 : ∀ xs : List T, cutG xs none (some 1) = xs.take 1 := fun xs => cut_take xs 1
    refine gt_name all_in ?_
    refine es_frz (i := 1) rfl rfl ?_
    refine es_seq ?_
    refine es_asg (ev_sl ?_)
    walk_at "e"
    refine os_L LstV.d fun p2 => ?_
    rw [cd1, ← List.map_drop, show (line :: words).drop 1 = words from rfl]
    refine gt_name all_in ?_
    refine es_frz (i := 2) rfl rfl ?_
    refine es_seq ?_
    refine es_asg (ev_callM ?_)
    walk_at "e"
    refine os_L LstV.d fun p3 => ?_
    rw [ct1, ← List.map_take, show (line :: words).take 1 = [line] from rfl]
    have one1 : ∀ x ∈ [line], IsName x := fun x hx => by rw [List.mem_singleton.mp hx]; exact hlnl
    refine ⟨_, Pu.fr, ea_cons (ev_var (by rfl) ⟨_, Pu.d, ea_cons (ev_bl ⟨_, Pu.d, ea_nil ?_⟩)⟩)⟩
    refine ⟨_, [.int 5, .lst ([line].map .str), .lst (words.map .str), .bl true], rfl, 0, us1, fun us' z => ∃ p : Plan, Mint (n0 + 13 + 101) us' ∧ Sml True 3 [line] words p ∧ p.length ≤ 5 ∧ z = .new (.lst (p.map eRoom)), ⟨n0 + 13, 5, [line], words, true, by omega, hm1, by omega, by omega, by simp, hw0, by simp, by omega, one1, hwn, rfl, fun us' p h1 h2 h3 h4 h5 h6 h7 => ⟨p, h1.mono (by omega), ⟨h2, h3, by omega, h5, h6, fun _ => h7 rfl⟩, h4, rfl⟩⟩, .inr ⟨rfl, ?_⟩⟩
    rintro us2 _ ⟨p, hm2, hp, hpl, rfl⟩ p4
    refine gt_name all_in ?_
    refine es_frz (i := 3) rfl rfl ?_
    refine es_seq ?_
    refine es_asg (ev_callM ?_)
    walk_at "e"
    refine uix_m (f := T.str) (l := line :: words) (j := 0) LstV.d (by simp) ⟨_, Pu.d, ?_⟩
    refine ea_cons (ev_var (by rfl) ⟨_, Pu.d, ea_nil ?_⟩)
    refine ⟨_, [ePlan p, .str line, .lst (words.map .str)], rfl, 0, us2, fun us' z => ∃ q : Plan, Mint (n0 + 13 + 101 + 300) us' ∧ Sml True 4 [line] words q ∧ q.length ≤ 5 ∧ z = .new (.lst (q.map eRoom)), ⟨n0 + 13 + 101, 3, p, line, words, by omega, hm2, by omega, hp, hw0, by omega, hlnl, hwn, rfl, fun us' q h1 h2 h3 => ⟨q, h1, h3, by omega, rfl⟩⟩, .inr ⟨rfl, ?_⟩⟩
    rintro us3 _ ⟨q0, hm3, hq0, hq0l, rfl⟩ p5
    refine gt_name all_in ?_
    refine es_frz (i := 4) rfl rfl ?_
    refine es_seqJ (fun δ => ∃ (us : OW) (q : Plan) (x4 : SV), Mint (n0 + 1000) us ∧ Sml True 5 [line] words q ∧ q.length ≤ 5 ∧ (x4 = .d (ePlan q) ∨ ∃ a, x4 = .own a (.lst (q.map eRoom))) ∧ δ = [.arg m us, .d (.lst ((line :: words).map .str)), .d (.lst (words.map .str)), .d (ePlan p), x4, .no, .no, .no, .no]) ?_ ?_
    · refine es_if (et_val (ev_op (ev_coin ?_)))
      walk_at "e"
      refine ⟨_, us3, n0 + 13 + 101 + 300, 2, rfl, rfl, hm3, by omega, by decide, small (by decide), fun us4 c hm4 hc1 hc2 => ⟨_, Pu.d, ?_⟩⟩
      refine ev_int ⟨_, Pu.d, o2_eqI ⟨_, rfl, ?_⟩⟩
      refine ite2 (fun _ => ?_) (fun _ => es_next ⟨us4, q0, _, hm4.mono (by omega), hq0.mono (by omega), hq0l, .inl rfl, rfl⟩)
      refine es_asg (ev_callM ?_)
      walk_at "e"
      refine os_L LstV.d fun p6 => ?_
      rw [ct1, ← List.map_take, show (line :: words).take 1 = [line] from rfl]
      refine ⟨_, Pu.fr, ea_cons (ev_var (by rfl) ⟨_, Pu.d, ea_nil ?_⟩)⟩
      refine ⟨_, [ePlan q0, .lst ([line].map .str), .lst (words.map .str)], rfl, 0, us4, fun us' z => ∃ q : Plan, Mint (n0 + 1000) us' ∧ Sml True 5 [line] words q ∧ q.length ≤ 5 ∧ z = .new (.lst (q.map eRoom)), ⟨True, n0 + 13 + 101 + 300 + 1, 4, q0, [line], words, by omega, hm4, by omega, hq0, by simp, hw0, by simp, by omega, one1, hwn, rfl, fun us' q h1 h2 h3 => ⟨q, h1.mono (by omega), h3, by omega, rfl⟩⟩, .inr ⟨rfl, ?_⟩⟩
      rintro us5 _ ⟨q1, hm5, hq1, hq1l, rfl⟩ p7
      refine gt_name all_in ?_
      exact ⟨us5, q1, _, hm5, hq1, hq1l, .inr ⟨p7, rfl⟩, rfl⟩
    · rintro δ ⟨us, q1, x4, hmu, hq1, hq1l, hx4, rfl⟩
      refine es_frzOr (i := 4) (u := ePlan q1) (hx4.imp (fun e => by rw [e]; rfl) fun ⟨a, e⟩ => ⟨a, _, by rw [e]; rfl, rfl⟩) ?_
      refine es_seqJ (fun δ => ∃ x5 x6 x7 x8, δ = [.arg m us, .d (.lst ((line :: words).map .str)), .d (.lst (words.map .str)), .d (ePlan p), .d (ePlan q1), x5, x6, x7, x8]) ?_ ?_
      · refine es_forI (ei_T ?_)
        walk_at "e"
        refine ⟨[ePlan p, ePlan q1], rfl, (show 2 ≤ sizeLine by omega), _, Pu.d, ea_cons (ev_tup (ea_cons (ev_var (by rfl) ⟨_, Pu.d, ea_cons (ev_var (by rfl) ⟨_, Pu.d, ea_nil ?_⟩)⟩)))⟩
        refine ⟨[ePlan q1, ePlan p], rfl, (show 2 ≤ sizeLine by omega), _, Pu.d, ea_nil ?_⟩
        refine ⟨[.tup [ePlan p, ePlan q1], .tup [ePlan q1, ePlan p]], rfl, (show 2 ≤ sizeLine by omega), _, rfl, fun i δ => ∃ x5 x6 x7 x8, δ = [.arg m us, .d (.lst ((line :: words).map .str)), .d (.lst (words.map .str)), .d (ePlan p), .d (ePlan q1), x5, x6, x7, x8], ⟨_, _, _, _, rfl⟩, fun _ _ _ => trivial, ?_, fun δ h => h⟩
        rintro i t δ hti ⟨x5, x6, x7, x8, rfl⟩
        obtain ⟨a, b, rfl, ta, tb, la, lb, al, bl⟩ : ∃ a b, t = .tup [ePlan a, ePlan b] ∧ PlanT a ∧ PlanT b ∧ Lone line 5 a ∧ Lone line 5 b ∧ a.length ≤ 5 ∧ b.length ≤ 5 := by
          match i, hti with
          | 0, h => cases h; exact ⟨p, q1, rfl, hp.planT (by decide), hq1.planT (by decide), (hp.mono (by decide)).lone, hq1.lone, hpl, hq1l⟩
          | 1, h => cases h; exact ⟨q1, p, rfl, hq1.planT (by decide), hp.planT (by decide), hq1.lone, (hp.mono (by decide)).lone, hq1l, hpl⟩
          | i + 2, h => simp at h
        refine gt_tup rfl (gts_cons (gt_name all_in (gts_cons (gt_name all_in (gts_nil ?_)))))
        refine es_seq ?_
        refine es_parG (by decide) (ea_cons (ev_callPn (ea_cons (ev_var (by rfl) ⟨_, Pu.d, ea_cons (ev_var (by rfl) ⟨_, Pu.d, ea_nil ⟨[ePlan a, ePlan b], rfl, a, b, ta, tb, rfl, fun due hdue => ⟨_, Pu.d, ?_⟩⟩⟩)⟩))))
        refine ea_cons (ev_callT (fun t ht => ht) (ea_cons (ev_callPn (ea_cons (ev_var (by rfl) ⟨_, Pu.d, ea_nil ⟨[ePlan b], rfl, b, tb.g, tb.n, rfl, fun qb hqb => ⟨_, Pu.d, ?_⟩⟩⟩)))))
        refine ea_cons (ev_callPn (ea_cons (ev_var (by rfl) ⟨_, Pu.d, ea_nil ⟨[ePlan a], rfl, a, ta.g, ta.n, rfl, fun qa hqa => ⟨_, Pu.d, ea_nil ?_⟩⟩⟩)))
        have sa := la.sv hqa
        have sb := lb.sv hqb
        refine ⟨[objS C qb, objS C qa], rfl, fun r => ∃ res, Parts qa qb res ∧ r = (match res with | none => .d .non | some r => .new (.lst (r.map eK))), ⟨qa, qb, line, hlnl, sa.g, sb.g, sa.pl, sb.pl, sa.ol, sb.ol, sa.n, sb.n, sa.l, sb.l, sa.so, rfl, fun res h => ⟨res, h, rfl⟩⟩, ?_⟩
        rintro _ ⟨res, hres, rfl⟩
        obtain ⟨k1, k2⟩ := parts_tried la lb ta tb sa sb hres hdue
        have non_lst : ∀ (ts : List T) (B : Bs) (F : Hp) (v : V), DV B F v (.lst ts) → decide (v = .non) = false := fun ts B F v h => by
          simp only [DV] at h
          obtain ⟨a, _, rfl, _⟩ := h
          rfl
        have non_non : ∀ (B : Bs) (F : Hp) (v : V), DV B F v .non → decide (v = .non) = true := fun B F v h => by
          simp only [DV] at h
          rw [h]; rfl
        cases due with
        | some r0 =>
          obtain rfl := k1 r0 rfl
          refine fun a8 => ⟨_, Pu.fr, ea_nil ⟨_, _, rfl, .d, .d, ?_⟩⟩
          obtain ⟨hr5, ⟨d, hrun, _⟩, _⟩ := hdue
          have hsh := shw_row (run_names ta hrun.1) (by omega)
          refine es_seq ?_
          refine es_if (et_and (et_val (ev_op (ev_var (by rfl) ⟨_, Pu.d, ev_non ⟨_, Pu.d, o2_notN (b := false) (non_lst _) ⟨_, rfl, ?_⟩⟩⟩))))
          refine ite2 (fun _ => ?_) (fun h => absurd rfl h)
          refine et_val (ev_op (ev_cb (ea_cons (ev_var (by rfl) ⟨_, Pu.d, ea_nil ?_⟩))))
          refine oa_repr (d := .list (r0.map dK)) (show (T.lst (r0.map eK)).py = some (.list (r0.map dK)) from by simp [T.py, pys_map eK_py]) (hsh.ok (by decide) (by decide)) ⟨_, Pu.d, ?_⟩
          refine ev_cb (ea_cons (ev_var (by rfl) ⟨_, Pu.d, ea_nil ?_⟩))
          refine oa_repr (d := .list (r0.map dK)) (show (T.lst (r0.map eK)).py = some (.list (r0.map dK)) from by simp [T.py, pys_map eK_py]) (hsh.ok (by decide) (by decide)) ⟨_, Pu.d, ?_⟩
          refine o2_neS ⟨_, rfl, ?_⟩
          rw [decide_eq_true rfl]
          refine ite2 (fun h => nomatch h) (fun _ => ?_)
          refine es_next ?_
          refine es_if (et_and (et_val (ev_op (ev_var (by rfl) ⟨_, Pu.d, ev_non ⟨_, Pu.d, o2_isN (b := false) (non_lst _) ⟨_, rfl, ?_⟩⟩⟩))))
          refine ite2 (fun h => nomatch h) (fun _ => ?_)
          refine ite2 (fun h => nomatch h) (fun _ => ?_)
          exact es_next ⟨_, _, _, _, rfl⟩
        | none =>
          cases res with
          | none =>
            refine ⟨_, Pu.d, ea_nil ⟨_, _, rfl, .d, .d, ?_⟩⟩
            refine es_seq ?_
            refine es_if (et_and (et_val (ev_op (ev_var (by rfl) ⟨_, Pu.d, ev_non ⟨_, Pu.d, o2_notN (b := true) non_non ⟨_, rfl, ?_⟩⟩⟩))))
            refine ite2 (fun h => nomatch h) (fun _ => ?_)
            refine ite2 (fun h => nomatch h) (fun _ => ?_)
            refine es_next ?_
            refine es_if (et_and (et_val (ev_op (ev_var (by rfl) ⟨_, Pu.d, ev_non ⟨_, Pu.d, o2_isN (b := true) non_non ⟨_, rfl, ?_⟩⟩⟩))))
            refine ite2 (fun _ => ?_) (fun h => absurd rfl h)
            refine et_and (et_val (ev_op (ev_var (by rfl) ⟨_, Pu.d, ev_non ⟨_, Pu.d, o2_notN (b := true) non_non ⟨_, rfl, ?_⟩⟩⟩)))
            refine ite2 (fun h => nomatch h) (fun _ => ?_)
            refine ite2 (fun h => nomatch h) (fun _ => ?_)
            exact es_next ⟨_, _, _, _, rfl⟩
          | some r =>
            have h5 := k2 rfl r rfl
            refine fun a8 => ⟨_, Pu.fr, ea_nil ⟨_, _, rfl, .d, .d, ?_⟩⟩
            refine es_seq ?_
            refine es_if (et_and (et_val (ev_op (ev_var (by rfl) ⟨_, Pu.d, ev_non ⟨_, Pu.d, o2_notN (b := true) non_non ⟨_, rfl, ?_⟩⟩⟩))))
            refine ite2 (fun h => nomatch h) (fun _ => ?_)
            refine ite2 (fun h => nomatch h) (fun _ => ?_)
            refine es_next ?_
            refine es_if (et_and (et_val (ev_op (ev_var (by rfl) ⟨_, Pu.d, ev_non ⟨_, Pu.d, o2_isN (b := true) non_non ⟨_, rfl, ?_⟩⟩⟩))))
            refine ite2 (fun _ => ?_) (fun h => absurd rfl h)
            refine et_and (et_val (ev_op (ev_var (by rfl) ⟨_, Pu.d, ev_non ⟨_, Pu.d, o2_notN (b := false) (non_lst _) ⟨_, rfl, ?_⟩⟩⟩)))
            refine ite2 (fun _ => ?_) (fun h => absurd rfl h)
            refine et_val (ev_op (ev_cb (ea_cons (ev_var (by rfl) ⟨_, Pu.d, ea_nil (ulen_L LstV.d ⟨_, Pu.d, ev_int ⟨_, Pu.d, o2_ltI ⟨_, rfl, ?_⟩⟩⟩)⟩))))
            rw [List.length_map, decide_eq_false (by omega)]
            refine ite2 (fun h => nomatch h) (fun _ => ?_)
            exact es_next ⟨_, _, _, _, rfl⟩
      · rintro δ ⟨x5, x6, x7, x8, rfl⟩
        refine es_ret (ev_bl ?_)
        exact ⟨us, rfl, hk us (hmu.mono (by omega))⟩
end
end K

namespace K
open PySem L2 DL
local macro_rules | `(tactic| walk_at "dl") => `(tactic| with_reducible first
  | refine es_if ?_ | refine es_append ?_ | refine es_sub ?_ | refine es_par3 ?_ | refine es_parD ?_ | refine es_asg ?_ | refine es_ret ?_ | refine es_retN ?_ | refine es_next ?_ | refine es_drop ?_ | refine es_break ?_ | refine es_cont ?_
  | refine et_val ?_ | refine et_B ?_ | refine et_not ?_ | refine et_and ?_ | refine et_or ?_ | refine et_yes ?_
  | refine ev_op ?_ | refine ev_un ?_ | refine ev_cb ?_ | refine ev_tup ?_ | refine ev_lst ?_ | refine ev_ifx ?_ | refine ev_andV ?_ | refine ev_orV ?_ | refine ev_notV ?_ | refine ev_sl ?_
  | refine ea_cons ?_ | refine ea_nil ?_ | refine ev_int ?_ | refine ev_str ?_ | refine ev_bl ?_ | refine ev_non ?_ | refine eo_none ?_ | refine eo_some ?_
  | refine gts_cons ?_ | refine gts_nil ?_
  | refine o2_addI ?_ | refine o2_ltI ?_ | refine o2_leI ?_ | refine o2_gtI ?_ | refine o2_geI ?_ | refine o2_ltS ?_ | refine o2_leS ?_ | refine o2_gtS ?_ | refine o2_sub ?_
  | refine oa_intI ?_ | refine oa_intB ?_ | refine oa_abs ?_ | refine oa_two ?_ | refine ulen_R ?_ | refine ulen_T ?_ | refine ulen_L LstV.d ?_
  | (refine ⟨_, Pu.d, ?_⟩) | (refine ⟨_, Pu.ptr, ?_⟩) | (refine ⟨_, Pu.fr, ?_⟩))
local macro_rules | `(tactic| walk_at "dv") => `(tactic| first
  | refine ev_var (by rfl) ?_ | refine ev_ptr (.inl (by rfl)) ?_ | refine ev_ptr (.inr (.inl (by rfl))) ?_ | refine ev_ptr (.inr (.inr (by rfl))) ?_
  | refine uix_L (LstV.o ⟨0, .inr (by rfl)⟩) (by rfl) ?_ | refine uix_L LstV.d (by rfl) ?_ | refine uix_T (by rfl) ?_
  | refine gt_tup (by rfl) ?_ | refine gt_name (by first | exact all_in | simp) ?_ | refine ⟨_, rfl, ?_⟩)
local macro_rules | `(tactic| walk_at "e") => `(tactic| repeat (first | walk_at "dl" | walk_at "dv"))
local macro_rules | `(tactic| walk_at "d") => `(tactic| repeat (first | with_reducible refine es_seq ?_ | walk_at "dl" | walk_at "dv"))
section
variable {P : Program} {w : World} {K : PySem.W.Frag} {mg : Str → Option Value} {base : Heap}
/-- the law: of at most 63 numbers it gives True; the tables of the inner defs stand empty -/
def spLawT (Ts : List Addr) (K : PySem.W.Frag) : Sp := fun vs H Q _ => ∃ (a : Addr) (ns : List Int), vs = [.ref a] ∧ SqL K H a (ns.map V.int) ∧ (∀ t ∈ Ts, H t = some (.tbl #[])) ∧ ns.length ≤ 63 ∧ ∀ H', Q (.bl true) H'
def lessH (Ts : List Addr) (H : Hp) : Hp := fun b => if b ∈ Ts then none else H b
theorem lessH_ex (Ts : List Addr) (H : Hp) : Ex (lessH Ts H) H := fun b o e => by
  unfold lessH at e
  split at e
  · cases e
  · exact e
theorem lessH_seq {Ts : List Addr} {H : Hp} {a : Addr} {xs : List V} (hT : ∀ t ∈ Ts, H t = some (.tbl #[])) (h : SqL K H a xs) : SqL K (lessH Ts H) a xs := by
  have no : ∀ u, H a = some u → u ≠ .tbl #[] → lessH Ts H a = some u := fun u e n => by
    unfold lessH
    rw [if_neg fun z => n (by rw [hT a z] at e; cases e; rfl)]
    exact e
  rcases h with (h | ⟨o, h⟩) | h
  · exact .inl (.inl (no _ h (by simp)))
  · exact .inl (.inr ⟨o, no _ h (by simp)⟩)
  · exact .inr h
theorem lessH_tb {B : Bs} {Ts : List Addr} {H : Hp} (hT : ∀ t ∈ Ts, H t = some (.tbl #[])) : TbAll B Ts (lessH Ts H) H := fun t ht => ⟨⟨#[], hT t ht, by simp [TriplesOk], fun pos cv h => by simp [codeAmong] at h⟩, if_pos ht⟩
abbrev s_law : Stmt := topS 55
abbrev N_law : List Str := ["script", "place", "mint", "turn"]
theorem sc_law : FnScope N_law ["script"] (defScope s_law) := ⟨rfl, rfl, rfl, by decide +kernel, rfl, by decide +kernel, by decide +kernel⟩

theorem dvs_ints {B : Bs} {F : Hp} : ∀ ns : List Int, DVs B F (ns.map V.int) (ns.map T.int)
  | [] => .nil
  | n :: ns => .cons (by simp only [DV]) (dvs_ints ns)
theorem ok_law {f tP : Addr} {fd : FuncData} (Fn : Fun K "law" "law" s_law f fd) (TX : TXF mg)
    (C_law_mint : Cal P w K mg base CX0 "_law_mint" 1 ["script", "place"] (spP ⟨P, w, K⟩ SMint))
    (C_law_fits : CalG P w K mg base "_law_fits" 8 ["mint"] (spMT ⟨P, w, K⟩ [tP] SFits)) : FnG P w K mg base 9 f fd ["script"] (spLawT [tP] K) := by
  refine FnG.make Fn sc_law (fun vs H Q E h => ?_) (fun cdv A outer s H vs Q E gd hr h => ?_)
  · obtain ⟨a, ns, rfl, _⟩ := h
    rfl
  · obtain ⟨a, ns, rfl, hS, hT0, hn, hk⟩ := h
    have hu := hr.units
    refine ⟨_, (pss_cons (ps_for PassesOwn.never rfl (pi_range1 (by rfl) TX.n_range (pa_cons (pe_callB (call_max2' rfl) (by rfl) TX.n_max (by decide +kernel) (pa_cons pe_int (pa_cons (pe_callB (call_min2' rfl) (by rfl) TX.n_min (by decide +kernel) (pa_cons pe_int (pa_cons (pe_callB (call_lenB ⟨P, w, K⟩ rfl hu) (by rfl) TX.n_len (by decide +kernel) (pa_cons (pv 0) pa_nil)) pa_nil))) pa_nil))) pa_nil)) (pg_name (i := 1) sc_law.nd rfl (Or.inl rfl)) (pss_cons (ps_set (i := 2) sc_law.nd rfl (Or.inl rfl) (pe_call C_law_mint.ok (hr.mono (by decide)) (by rfl) C_law_mint.mg C_law_mint.kp C_law_mint.bd .nil pass0 (pa_cons (pv 0) (pa_cons (pv 1) pa_nil))))
    (pss_one (ps_for PassesOwn.never rfl (pi_range1 (by rfl) TX.n_range (pa_cons pe_int pa_nil)) (pg_name (i := 3) sc_law.nd rfl (Or.inl rfl)) (pss_one (ps_if (pt_not (pt_val (pe_callG C_law_fits.ok gd (hr.mono (by decide)) (by rfl) C_law_fits.mg C_law_fits.kp C_law_fits.bd (pa_cons (pv 2) pa_nil)))) (pss_one (ps_ret pe_bl)) pss_nil))))))
    (pss_one (ps_ret pe_bl))), ?_⟩
    refine run_T (B := ⟨P, w, K⟩) (F := lessH [tP] H) (ts := [.rl (ns.map T.int)]) (P := fun r => r = .d (.bl true)) (n := 3) (lessH_ex _ _) (.cons (by simp only [DV]; exact ⟨a, _, rfl, lessH_seq hT0 hS, dvs_ints ns⟩) .nil) (lessH_tb hT0) rfl (fun r v H' F' e A => ?_) ?_
    · subst e
      have hv : DV ⟨P, w, K⟩ F' v (.bl true) := A.res
      rw [DV.bl_ hv]
      exact hk H'
    refine es_seqJ (fun δ => ∃ x y z, δ = [.d (.rl (ns.map T.int)), x, y, z]) ?_ ?_
    · refine es_forI (ei_R (ea_cons (ev_cb ?_)))
      walk_at "e"
      refine ⟨(if (if ((ns.map T.int).length : Int) < 24 then ((ns.map T.int).length : Int) else 24) > 1 then (if ((ns.map T.int).length : Int) < 24 then ((ns.map T.int).length : Int) else 24) else 1).toNat, ?_, ?_, fun i δ => ∃ x y z, δ = [.d (.rl (ns.map T.int)), x, y, z], ⟨_, _, _, rfl⟩, fun _ _ _ => trivial, ?_, fun δ h => h⟩
      · rw [Int.toNat_of_nonneg]
        split <;> (try split) <;> omega
      · have : (if (if ((ns.map T.int).length : Int) < 24 then ((ns.map T.int).length : Int) else 24) > 1 then (if ((ns.map T.int).length : Int) < 24 then ((ns.map T.int).length : Int) else 24) else 1) ≤ 24 := by split <;> (try split) <;> omega
        omega
      rintro i t δ ht ⟨x, y, z, rfl⟩
      obtain ⟨hi, et⟩ := List.getElem?_eq_some_iff.mp ht
      rw [List.length_map, List.length_range] at hi
      have hi2 : i < 1000 := by
        have : (if (if ((ns.map T.int).length : Int) < 24 then ((ns.map T.int).length : Int) else 24) > 1 then (if ((ns.map T.int).length : Int) < 24 then ((ns.map T.int).length : Int) else 24) else 1) ≤ 24 := by split <;> (try split) <;> omega
        omega
      have et : t = .int (i : Nat) := by simpa using et.symm
      subst et
      refine gt_name all_in ?_
      refine es_seq ?_
      refine es_asg (ev_callPn ?_)
      walk_at "e"
      refine ⟨[.rl (ns.map T.int), .int i], rfl, ns, i, hn, hi2, rfl, fun us hus p1 => ?_⟩
      refine gt_name all_in ?_
      refine es_forI (ei_R (ea_cons (ev_int ⟨_, Pu.d, ea_nil ?_⟩)))
      refine ⟨2, rfl, by decide, fun j δ => ∃ (us : OW) (z : SV), Mint (5000 * j) us ∧ δ = [.d (.rl (ns.map T.int)), .d (.int i), .own p1 us, z], ⟨us, _, hus, rfl⟩, fun _ _ _ => trivial, ?_, fun δ ⟨us, z, _, e⟩ => ⟨_, _, _, e⟩⟩
      rintro j t δ ht ⟨us, z, hm, rfl⟩
      have hj : j < 2 := by
        have := (List.getElem?_eq_some_iff.mp ht).1
        simpa using this
      refine gt_name all_in ?_
      refine es_if (et_not (et_val (ev_callMT (fun t ht => ht) ?_)))
      walk_at "e"
      refine ⟨_, [], rfl, 2, us, fun us' r => Mint (5000 * j + 5000) us' ∧ r = .d (.bl true), ⟨5000 * j, by omega, hm, rfl, fun us' h => ⟨h, rfl⟩⟩, .inl ⟨rfl, ?_⟩⟩
      rintro us' _ ⟨hm', rfl⟩
      refine ⟨_, rfl, ?_⟩
      refine ite2 (fun h => nomatch h) (fun _ => ?_)
      exact es_next ⟨us', _, hm'.mono (by omega), rfl⟩
    · rintro δ ⟨x, y, z, rfl⟩
      walk_at "e"
      rfl
end
end K

namespace K
open PySem L2 DL
theorem all_mk {l : PySem.W.OpenLaw} {w : World} {K : PySem.W.Frag} {h : Heap} {mg : Str → Option Value} {fa : Addr} (X : K.In h) (G : h.Ns mainGlobals mg) (hfa : mg "law" = some (.ref fa)) (DT : ∀ y ∈ (["parting_talk"] : List Str), DefTabs mg h y)
    {C_Service : Addr}
    {f_is_index : Addr} {od_is_index an_is_index : Option Addr} {sl_is_index : Array (Option Value)} {oc_is_index kV_is_index dc_is_index pm_is_index ct_is_index : Value} {cd_is_index : Value}
    {f_is_name : Addr} {od_is_name an_is_name : Option Addr} {sl_is_name : Array (Option Value)} {oc_is_name kV_is_name dc_is_name pm_is_name ct_is_name : Value} {cd_is_name : Value}
    {f_check_step : Addr} {od_check_step an_check_step : Option Addr} {sl_check_step : Array (Option Value)} {oc_check_step kV_check_step dc_check_step pm_check_step ct_check_step : Value} {cd_check_step : Value}
    {f_next_rooms : Addr} {od_next_rooms an_next_rooms : Option Addr} {sl_next_rooms : Array (Option Value)} {oc_next_rooms kV_next_rooms dc_next_rooms pm_next_rooms ct_next_rooms : Value} {cd_next_rooms : Value}
    {f_check_rooms : Addr} {od_check_rooms an_check_rooms : Option Addr} {sl_check_rooms : Array (Option Value)} {oc_check_rooms kV_check_rooms dc_check_rooms pm_check_rooms ct_check_rooms : Value} {cd_check_rooms : Value}
    {f_split_groups : Addr} {od_split_groups an_split_groups : Option Addr} {sl_split_groups : Array (Option Value)} {oc_split_groups kV_split_groups dc_split_groups pm_split_groups ct_split_groups : Value} {cd_split_groups : Value}
    {f_alike_groups : Addr} {od_alike_groups an_alike_groups : Option Addr} {sl_alike_groups : Array (Option Value)} {oc_alike_groups kV_alike_groups dc_alike_groups pm_alike_groups ct_alike_groups : Value} {cd_alike_groups : Value}
    {f_numbered_rooms : Addr} {od_numbered_rooms an_numbered_rooms : Option Addr} {sl_numbered_rooms : Array (Option Value)} {oc_numbered_rooms kV_numbered_rooms dc_numbered_rooms pm_numbered_rooms ct_numbered_rooms : Value} {cd_numbered_rooms : Value}
    {f_least_rooms : Addr} {od_least_rooms an_least_rooms : Option Addr} {sl_least_rooms : Array (Option Value)} {oc_least_rooms kV_least_rooms dc_least_rooms pm_least_rooms ct_least_rooms : Value} {cd_least_rooms : Value}
    {f_Service___init__ : Addr} {od_Service___init__ an_Service___init__ : Option Addr} {sl_Service___init__ : Array (Option Value)} {oc_Service___init__ kV_Service___init__ dc_Service___init__ pm_Service___init__ ct_Service___init__ : Value} {cd_Service___init__ : Value}
    {f_Service_rooms : Addr} {od_Service_rooms an_Service_rooms : Option Addr} {sl_Service_rooms : Array (Option Value)} {oc_Service_rooms kV_Service_rooms dc_Service_rooms pm_Service_rooms ct_Service_rooms : Value} {cd_Service_rooms : Value}
    {f_Service_lines : Addr} {od_Service_lines an_Service_lines : Option Addr} {sl_Service_lines : Array (Option Value)} {oc_Service_lines kV_Service_lines dc_Service_lines pm_Service_lines ct_Service_lines : Value} {cd_Service_lines : Value}
    {f_is_plain : Addr} {od_is_plain an_is_plain : Option Addr} {sl_is_plain : Array (Option Value)} {oc_is_plain kV_is_plain dc_is_plain pm_is_plain ct_is_plain : Value} {cd_is_plain : Value}
    {f_shared_ways : Addr} {od_shared_ways an_shared_ways : Option Addr} {sl_shared_ways : Array (Option Value)} {oc_shared_ways kV_shared_ways dc_shared_ways pm_shared_ways ct_shared_ways : Value} {cd_shared_ways : Value}
    {f_first_row : Addr} {od_first_row an_first_row : Option Addr} {sl_first_row : Array (Option Value)} {oc_first_row kV_first_row dc_first_row pm_first_row ct_first_row : Value} {cd_first_row : Value}
    {f_sign_of : Addr} {od_sign_of an_sign_of : Option Addr} {sl_sign_of : Array (Option Value)} {oc_sign_of kV_sign_of dc_sign_of pm_sign_of ct_sign_of : Value} {cd_sign_of : Value}
    {f_has_steps_of : Addr} {od_has_steps_of an_has_steps_of : Option Addr} {sl_has_steps_of : Array (Option Value)} {oc_has_steps_of kV_has_steps_of dc_has_steps_of pm_has_steps_of ct_has_steps_of : Value} {cd_has_steps_of : Value}
    {f_stands : Addr} {od_stands an_stands : Option Addr} {sl_stands : Array (Option Value)} {oc_stands kV_stands dc_stands pm_stands ct_stands : Value} {cd_stands : Value}
    {f_check_plain : Addr} {od_check_plain an_check_plain : Option Addr} {sl_check_plain : Array (Option Value)} {oc_check_plain kV_check_plain dc_check_plain pm_check_plain ct_check_plain : Value} {cd_check_plain : Value}
    {f_parting_talk : Addr} {od_parting_talk an_parting_talk : Option Addr} {sl_parting_talk : Array (Option Value)} {oc_parting_talk kV_parting_talk dc_parting_talk pm_parting_talk ct_parting_talk : Value} {cd_parting_talk : Addr}
    {f_law_mint : Addr} {od_law_mint an_law_mint : Option Addr} {sl_law_mint : Array (Option Value)} {oc_law_mint kV_law_mint dc_law_mint pm_law_mint ct_law_mint : Value} {cd_law_mint : Value}
    {f_law_coin : Addr} {od_law_coin an_law_coin : Option Addr} {sl_law_coin : Array (Option Value)} {oc_law_coin kV_law_coin dc_law_coin pm_law_coin ct_law_coin : Value} {cd_law_coin : Value}
    {f_law_labels : Addr} {od_law_labels an_law_labels : Option Addr} {sl_law_labels : Array (Option Value)} {oc_law_labels kV_law_labels dc_law_labels pm_law_labels ct_law_labels : Value} {cd_law_labels : Value}
    {f_law_room_steps : Addr} {od_law_room_steps an_law_room_steps : Option Addr} {sl_law_room_steps : Array (Option Value)} {oc_law_room_steps kV_law_room_steps dc_law_room_steps pm_law_room_steps ct_law_room_steps : Value} {cd_law_room_steps : Value}
    {f_law_plan_of : Addr} {od_law_plan_of an_law_plan_of : Option Addr} {sl_law_plan_of : Array (Option Value)} {oc_law_plan_of kV_law_plan_of dc_law_plan_of pm_law_plan_of ct_law_plan_of : Value} {cd_law_plan_of : Value}
    {f_law_made_service : Addr} {od_law_made_service an_law_made_service : Option Addr} {sl_law_made_service : Array (Option Value)} {oc_law_made_service kV_law_made_service dc_law_made_service pm_law_made_service ct_law_made_service : Value} {cd_law_made_service : Value}
    {f_law_goal : Addr} {od_law_goal an_law_goal : Option Addr} {sl_law_goal : Array (Option Value)} {oc_law_goal kV_law_goal dc_law_goal pm_law_goal ct_law_goal : Value} {cd_law_goal : Value}
    {f_law_keys : Addr} {od_law_keys an_law_keys : Option Addr} {sl_law_keys : Array (Option Value)} {oc_law_keys kV_law_keys dc_law_keys pm_law_keys ct_law_keys : Value} {cd_law_keys : Value}
    {f_law_sign_of : Addr} {od_law_sign_of an_law_sign_of : Option Addr} {sl_law_sign_of : Array (Option Value)} {oc_law_sign_of kV_law_sign_of dc_law_sign_of pm_law_sign_of ct_law_sign_of : Value} {cd_law_sign_of : Value}
    {f_law_stands : Addr} {od_law_stands an_law_stands : Option Addr} {sl_law_stands : Array (Option Value)} {oc_law_stands kV_law_stands dc_law_stands pm_law_stands ct_law_stands : Value} {cd_law_stands : Value}
    {f_law_tried : Addr} {od_law_tried an_law_tried : Option Addr} {sl_law_tried : Array (Option Value)} {oc_law_tried kV_law_tried dc_law_tried pm_law_tried ct_law_tried : Value} {cd_law_tried : Value}
    {f_law_kin_plan : Addr} {od_law_kin_plan an_law_kin_plan : Option Addr} {sl_law_kin_plan : Array (Option Value)} {oc_law_kin_plan kV_law_kin_plan dc_law_kin_plan pm_law_kin_plan ct_law_kin_plan : Value} {cd_law_kin_plan : Value}
    {f_law_bent_plan : Addr} {od_law_bent_plan an_law_bent_plan : Option Addr} {sl_law_bent_plan : Array (Option Value)} {oc_law_bent_plan kV_law_bent_plan dc_law_bent_plan pm_law_bent_plan ct_law_bent_plan : Value} {cd_law_bent_plan : Value}
    {f_law_fits : Addr} {od_law_fits an_law_fits : Option Addr} {sl_law_fits : Array (Option Value)} {oc_law_fits kV_law_fits dc_law_fits pm_law_fits ct_law_fits : Value} {cd_law_fits : Value}
    {f_law : Addr} {od_law an_law : Option Addr} {sl_law : Array (Option Value)} {oc_law kV_law dc_law pm_law ct_law : Value} {cd_law : Value}
    {t_SIGNS : Addr} {n_SIGNS : Nat} {od_SIGNS : Option Addr} {sl_SIGNS : Array (Option Value)} {k_SIGNS0 : Tok} {k_SIGNS1 : Tok}
    {k_LONGEST_NAME : Tok}
    {pr_Service_rooms : Addr} {ps_Service_rooms : List Value}
    {pr_Service_lines : Addr} {ps_Service_lines : List Value}
    (a_Service : PySem.W.nsIn K mainGlobals "Service" = some (some (.ref C_Service)))
    (pg_Service : PySem.W.plainGet K C_Service Str.empty = true)
    (hd_Service : PySem.W.hasDictIn K C_Service = true)
    (po_Service : PySem.W.plainOver K C_Service = true)
    (sa_Service : PySem.W.findIn K (.ref C_Service) "__setattr__" = some (some (.builtin "object.__setattr__")))
    (mk_Service : PySem.W.makesIn K C_Service = true)
    (kc_Service : PySem.W.keepIn K (.ref C_Service) = true)
    (na_Service_rooms : PySem.W.findIn K (.ref C_Service) "_rooms" = some none)
    (a_is_index : PySem.W.nsIn K mainGlobals "is_index" = some (some (.ref f_is_index)))
    (l_is_index : K.lookup f_is_index = some ⟨oc_is_index, od_is_index, .func (PySem.W.fnOf "is_index" "is_index" (defArgs s_is_index) (defBody s_is_index) (defScope s_is_index) .none kV_is_index dc_is_index pm_is_index an_is_index cd_is_index ct_is_index), sl_is_index⟩)
    (c_is_index : PySem.W.codeIn K cd_is_index "is_index" = true)
    (k_is_index : PySem.W.keepIn K (.ref f_is_index) = true)
    (a_is_name : PySem.W.nsIn K mainGlobals "is_name" = some (some (.ref f_is_name)))
    (l_is_name : K.lookup f_is_name = some ⟨oc_is_name, od_is_name, .func (PySem.W.fnOf "is_name" "is_name" (defArgs s_is_name) (defBody s_is_name) (defScope s_is_name) .none kV_is_name dc_is_name pm_is_name an_is_name cd_is_name ct_is_name), sl_is_name⟩)
    (c_is_name : PySem.W.codeIn K cd_is_name "is_name" = true)
    (k_is_name : PySem.W.keepIn K (.ref f_is_name) = true)
    (a_check_step : PySem.W.nsIn K mainGlobals "check_step" = some (some (.ref f_check_step)))
    (l_check_step : K.lookup f_check_step = some ⟨oc_check_step, od_check_step, .func (PySem.W.fnOf "check_step" "check_step" (defArgs s_check_step) (defBody s_check_step) (defScope s_check_step) .none kV_check_step dc_check_step pm_check_step an_check_step cd_check_step ct_check_step), sl_check_step⟩)
    (c_check_step : PySem.W.codeIn K cd_check_step "check_step" = true)
    (k_check_step : PySem.W.keepIn K (.ref f_check_step) = true)
    (a_next_rooms : PySem.W.nsIn K mainGlobals "next_rooms" = some (some (.ref f_next_rooms)))
    (l_next_rooms : K.lookup f_next_rooms = some ⟨oc_next_rooms, od_next_rooms, .func (PySem.W.fnOf "next_rooms" "next_rooms" (defArgs s_next_rooms) (defBody s_next_rooms) (defScope s_next_rooms) .none kV_next_rooms dc_next_rooms pm_next_rooms an_next_rooms cd_next_rooms ct_next_rooms), sl_next_rooms⟩)
    (c_next_rooms : PySem.W.codeIn K cd_next_rooms "next_rooms" = true)
    (k_next_rooms : PySem.W.keepIn K (.ref f_next_rooms) = true)
    (a_check_rooms : PySem.W.nsIn K mainGlobals "check_rooms" = some (some (.ref f_check_rooms)))
    (l_check_rooms : K.lookup f_check_rooms = some ⟨oc_check_rooms, od_check_rooms, .func (PySem.W.fnOf "check_rooms" "check_rooms" (defArgs s_check_rooms) (defBody s_check_rooms) (defScope s_check_rooms) .none kV_check_rooms dc_check_rooms pm_check_rooms an_check_rooms cd_check_rooms ct_check_rooms), sl_check_rooms⟩)
    (c_check_rooms : PySem.W.codeIn K cd_check_rooms "check_rooms" = true)
    (k_check_rooms : PySem.W.keepIn K (.ref f_check_rooms) = true)
    (a_split_groups : PySem.W.nsIn K mainGlobals "split_groups" = some (some (.ref f_split_groups)))
    (l_split_groups : K.lookup f_split_groups = some ⟨oc_split_groups, od_split_groups, .func (PySem.W.fnOf "split_groups" "split_groups" (defArgs s_split_groups) (defBody s_split_groups) (defScope s_split_groups) .none kV_split_groups dc_split_groups pm_split_groups an_split_groups cd_split_groups ct_split_groups), sl_split_groups⟩)
    (c_split_groups : PySem.W.codeIn K cd_split_groups "split_groups" = true)
    (k_split_groups : PySem.W.keepIn K (.ref f_split_groups) = true)
    (a_alike_groups : PySem.W.nsIn K mainGlobals "alike_groups" = some (some (.ref f_alike_groups)))
    (l_alike_groups : K.lookup f_alike_groups = some ⟨oc_alike_groups, od_alike_groups, .func (PySem.W.fnOf "alike_groups" "alike_groups" (defArgs s_alike_groups) (defBody s_alike_groups) (defScope s_alike_groups) .none kV_alike_groups dc_alike_groups pm_alike_groups an_alike_groups cd_alike_groups ct_alike_groups), sl_alike_groups⟩)
    (c_alike_groups : PySem.W.codeIn K cd_alike_groups "alike_groups" = true)
    (k_alike_groups : PySem.W.keepIn K (.ref f_alike_groups) = true)
    (a_numbered_rooms : PySem.W.nsIn K mainGlobals "numbered_rooms" = some (some (.ref f_numbered_rooms)))
    (l_numbered_rooms : K.lookup f_numbered_rooms = some ⟨oc_numbered_rooms, od_numbered_rooms, .func (PySem.W.fnOf "numbered_rooms" "numbered_rooms" (defArgs s_numbered_rooms) (defBody s_numbered_rooms) (defScope s_numbered_rooms) .none kV_numbered_rooms dc_numbered_rooms pm_numbered_rooms an_numbered_rooms cd_numbered_rooms ct_numbered_rooms), sl_numbered_rooms⟩)
    (c_numbered_rooms : PySem.W.codeIn K cd_numbered_rooms "numbered_rooms" = true)
    (k_numbered_rooms : PySem.W.keepIn K (.ref f_numbered_rooms) = true)
    (a_least_rooms : PySem.W.nsIn K mainGlobals "least_rooms" = some (some (.ref f_least_rooms)))
    (l_least_rooms : K.lookup f_least_rooms = some ⟨oc_least_rooms, od_least_rooms, .func (PySem.W.fnOf "least_rooms" "least_rooms" (defArgs s_least_rooms) (defBody s_least_rooms) (defScope s_least_rooms) .none kV_least_rooms dc_least_rooms pm_least_rooms an_least_rooms cd_least_rooms ct_least_rooms), sl_least_rooms⟩)
    (c_least_rooms : PySem.W.codeIn K cd_least_rooms "least_rooms" = true)
    (k_least_rooms : PySem.W.keepIn K (.ref f_least_rooms) = true)
    (a_Service___init__ : PySem.W.findIn K (.ref C_Service) "__init__" = some (some (.ref f_Service___init__)))
    (i_Service___init__ : PySem.W.isFn K (.ref f_Service___init__) = true)
    (l_Service___init__ : K.lookup f_Service___init__ = some ⟨oc_Service___init__, od_Service___init__, .func (PySem.W.fnOf "__init__" "Service.__init__" (defArgs s_Service___init__) (defBody s_Service___init__) (defScope s_Service___init__) .none kV_Service___init__ dc_Service___init__ pm_Service___init__ an_Service___init__ cd_Service___init__ ct_Service___init__), sl_Service___init__⟩)
    (c_Service___init__ : PySem.W.codeIn K cd_Service___init__ "Service.__init__" = true)
    (k_Service___init__ : PySem.W.keepIn K (.ref f_Service___init__) = true)
    (a_Service_rooms : PySem.W.findIn K (.ref C_Service) "rooms" = some (some (.ref pr_Service_rooms)))
    (pg_Service_rooms : PySem.W.specialIn K (.ref pr_Service_rooms) "__get__" = some (some (.builtin "property.__get__")))
    (pt_Service_rooms : PySem.W.takesIn K (.ref pr_Service_rooms) = some true)
    (pc_Service_rooms : PySem.W.recIn K pr_Service_rooms "property" = some (.ref f_Service_rooms :: ps_Service_rooms))
    (l_Service_rooms : K.lookup f_Service_rooms = some ⟨oc_Service_rooms, od_Service_rooms, .func (PySem.W.fnOf "rooms" "Service.rooms" (defArgs s_Service_rooms) (defBody s_Service_rooms) (defScope s_Service_rooms) .none kV_Service_rooms dc_Service_rooms pm_Service_rooms an_Service_rooms cd_Service_rooms ct_Service_rooms), sl_Service_rooms⟩)
    (c_Service_rooms : PySem.W.codeIn K cd_Service_rooms "Service.rooms" = true)
    (k_Service_rooms : PySem.W.keepIn K (.ref f_Service_rooms) = true)
    (a_Service_lines : PySem.W.findIn K (.ref C_Service) "lines" = some (some (.ref pr_Service_lines)))
    (pg_Service_lines : PySem.W.specialIn K (.ref pr_Service_lines) "__get__" = some (some (.builtin "property.__get__")))
    (pt_Service_lines : PySem.W.takesIn K (.ref pr_Service_lines) = some true)
    (pc_Service_lines : PySem.W.recIn K pr_Service_lines "property" = some (.ref f_Service_lines :: ps_Service_lines))
    (l_Service_lines : K.lookup f_Service_lines = some ⟨oc_Service_lines, od_Service_lines, .func (PySem.W.fnOf "lines" "Service.lines" (defArgs s_Service_lines) (defBody s_Service_lines) (defScope s_Service_lines) .none kV_Service_lines dc_Service_lines pm_Service_lines an_Service_lines cd_Service_lines ct_Service_lines), sl_Service_lines⟩)
    (c_Service_lines : PySem.W.codeIn K cd_Service_lines "Service.lines" = true)
    (k_Service_lines : PySem.W.keepIn K (.ref f_Service_lines) = true)
    (a_is_plain : PySem.W.nsIn K mainGlobals "is_plain" = some (some (.ref f_is_plain)))
    (l_is_plain : K.lookup f_is_plain = some ⟨oc_is_plain, od_is_plain, .func (PySem.W.fnOf "is_plain" "is_plain" (defArgs s_is_plain) (defBody s_is_plain) (defScope s_is_plain) .none kV_is_plain dc_is_plain pm_is_plain an_is_plain cd_is_plain ct_is_plain), sl_is_plain⟩)
    (c_is_plain : PySem.W.codeIn K cd_is_plain "is_plain" = true)
    (k_is_plain : PySem.W.keepIn K (.ref f_is_plain) = true)
    (a_shared_ways : PySem.W.nsIn K mainGlobals "shared_ways" = some (some (.ref f_shared_ways)))
    (l_shared_ways : K.lookup f_shared_ways = some ⟨oc_shared_ways, od_shared_ways, .func (PySem.W.fnOf "shared_ways" "shared_ways" (defArgs s_shared_ways) (defBody s_shared_ways) (defScope s_shared_ways) .none kV_shared_ways dc_shared_ways pm_shared_ways an_shared_ways cd_shared_ways ct_shared_ways), sl_shared_ways⟩)
    (c_shared_ways : PySem.W.codeIn K cd_shared_ways "shared_ways" = true)
    (k_shared_ways : PySem.W.keepIn K (.ref f_shared_ways) = true)
    (a_first_row : PySem.W.nsIn K mainGlobals "first_row" = some (some (.ref f_first_row)))
    (l_first_row : K.lookup f_first_row = some ⟨oc_first_row, od_first_row, .func (PySem.W.fnOf "first_row" "first_row" (defArgs s_first_row) (defBody s_first_row) (defScope s_first_row) .none kV_first_row dc_first_row pm_first_row an_first_row cd_first_row ct_first_row), sl_first_row⟩)
    (c_first_row : PySem.W.codeIn K cd_first_row "first_row" = true)
    (k_first_row : PySem.W.keepIn K (.ref f_first_row) = true)
    (a_sign_of : PySem.W.nsIn K mainGlobals "sign_of" = some (some (.ref f_sign_of)))
    (l_sign_of : K.lookup f_sign_of = some ⟨oc_sign_of, od_sign_of, .func (PySem.W.fnOf "sign_of" "sign_of" (defArgs s_sign_of) (defBody s_sign_of) (defScope s_sign_of) .none kV_sign_of dc_sign_of pm_sign_of an_sign_of cd_sign_of ct_sign_of), sl_sign_of⟩)
    (c_sign_of : PySem.W.codeIn K cd_sign_of "sign_of" = true)
    (k_sign_of : PySem.W.keepIn K (.ref f_sign_of) = true)
    (a_has_steps_of : PySem.W.nsIn K mainGlobals "has_steps_of" = some (some (.ref f_has_steps_of)))
    (l_has_steps_of : K.lookup f_has_steps_of = some ⟨oc_has_steps_of, od_has_steps_of, .func (PySem.W.fnOf "has_steps_of" "has_steps_of" (defArgs s_has_steps_of) (defBody s_has_steps_of) (defScope s_has_steps_of) .none kV_has_steps_of dc_has_steps_of pm_has_steps_of an_has_steps_of cd_has_steps_of ct_has_steps_of), sl_has_steps_of⟩)
    (c_has_steps_of : PySem.W.codeIn K cd_has_steps_of "has_steps_of" = true)
    (k_has_steps_of : PySem.W.keepIn K (.ref f_has_steps_of) = true)
    (a_stands : PySem.W.nsIn K mainGlobals "stands" = some (some (.ref f_stands)))
    (l_stands : K.lookup f_stands = some ⟨oc_stands, od_stands, .func (PySem.W.fnOf "stands" "stands" (defArgs s_stands) (defBody s_stands) (defScope s_stands) .none kV_stands dc_stands pm_stands an_stands cd_stands ct_stands), sl_stands⟩)
    (c_stands : PySem.W.codeIn K cd_stands "stands" = true)
    (k_stands : PySem.W.keepIn K (.ref f_stands) = true)
    (a_check_plain : PySem.W.nsIn K mainGlobals "check_plain" = some (some (.ref f_check_plain)))
    (l_check_plain : K.lookup f_check_plain = some ⟨oc_check_plain, od_check_plain, .func (PySem.W.fnOf "check_plain" "check_plain" (defArgs s_check_plain) (defBody s_check_plain) (defScope s_check_plain) .none kV_check_plain dc_check_plain pm_check_plain an_check_plain cd_check_plain ct_check_plain), sl_check_plain⟩)
    (c_check_plain : PySem.W.codeIn K cd_check_plain "check_plain" = true)
    (k_check_plain : PySem.W.keepIn K (.ref f_check_plain) = true)
    (a_parting_talk : PySem.W.nsIn K mainGlobals "parting_talk" = some (some (.ref f_parting_talk)))
    (l_parting_talk : K.lookup f_parting_talk = some ⟨oc_parting_talk, od_parting_talk, .func (PySem.W.fnOf "parting_talk" "parting_talk" (defArgs s_parting_talk) (defBody s_parting_talk) (defScope s_parting_talk) .none kV_parting_talk dc_parting_talk pm_parting_talk an_parting_talk (.ref cd_parting_talk) ct_parting_talk), sl_parting_talk⟩)
    (c_parting_talk : PySem.W.codeIn K (.ref cd_parting_talk) "parting_talk" = true)
    (k_parting_talk : PySem.W.keepIn K (.ref f_parting_talk) = true)
    (a_law_mint : PySem.W.nsIn K mainGlobals "_law_mint" = some (some (.ref f_law_mint)))
    (l_law_mint : K.lookup f_law_mint = some ⟨oc_law_mint, od_law_mint, .func (PySem.W.fnOf "_law_mint" "_law_mint" (defArgs s_law_mint) (defBody s_law_mint) (defScope s_law_mint) .none kV_law_mint dc_law_mint pm_law_mint an_law_mint cd_law_mint ct_law_mint), sl_law_mint⟩)
    (c_law_mint : PySem.W.codeIn K cd_law_mint "_law_mint" = true)
    (k_law_mint : PySem.W.keepIn K (.ref f_law_mint) = true)
    (a_law_coin : PySem.W.nsIn K mainGlobals "_law_coin" = some (some (.ref f_law_coin)))
    (l_law_coin : K.lookup f_law_coin = some ⟨oc_law_coin, od_law_coin, .func (PySem.W.fnOf "_law_coin" "_law_coin" (defArgs s_law_coin) (defBody s_law_coin) (defScope s_law_coin) .none kV_law_coin dc_law_coin pm_law_coin an_law_coin cd_law_coin ct_law_coin), sl_law_coin⟩)
    (c_law_coin : PySem.W.codeIn K cd_law_coin "_law_coin" = true)
    (k_law_coin : PySem.W.keepIn K (.ref f_law_coin) = true)
    (a_law_labels : PySem.W.nsIn K mainGlobals "_law_labels" = some (some (.ref f_law_labels)))
    (l_law_labels : K.lookup f_law_labels = some ⟨oc_law_labels, od_law_labels, .func (PySem.W.fnOf "_law_labels" "_law_labels" (defArgs s_law_labels) (defBody s_law_labels) (defScope s_law_labels) .none kV_law_labels dc_law_labels pm_law_labels an_law_labels cd_law_labels ct_law_labels), sl_law_labels⟩)
    (c_law_labels : PySem.W.codeIn K cd_law_labels "_law_labels" = true)
    (k_law_labels : PySem.W.keepIn K (.ref f_law_labels) = true)
    (a_law_room_steps : PySem.W.nsIn K mainGlobals "_law_room_steps" = some (some (.ref f_law_room_steps)))
    (l_law_room_steps : K.lookup f_law_room_steps = some ⟨oc_law_room_steps, od_law_room_steps, .func (PySem.W.fnOf "_law_room_steps" "_law_room_steps" (defArgs s_law_room_steps) (defBody s_law_room_steps) (defScope s_law_room_steps) .none kV_law_room_steps dc_law_room_steps pm_law_room_steps an_law_room_steps cd_law_room_steps ct_law_room_steps), sl_law_room_steps⟩)
    (c_law_room_steps : PySem.W.codeIn K cd_law_room_steps "_law_room_steps" = true)
    (k_law_room_steps : PySem.W.keepIn K (.ref f_law_room_steps) = true)
    (a_law_plan_of : PySem.W.nsIn K mainGlobals "_law_plan_of" = some (some (.ref f_law_plan_of)))
    (l_law_plan_of : K.lookup f_law_plan_of = some ⟨oc_law_plan_of, od_law_plan_of, .func (PySem.W.fnOf "_law_plan_of" "_law_plan_of" (defArgs s_law_plan_of) (defBody s_law_plan_of) (defScope s_law_plan_of) .none kV_law_plan_of dc_law_plan_of pm_law_plan_of an_law_plan_of cd_law_plan_of ct_law_plan_of), sl_law_plan_of⟩)
    (c_law_plan_of : PySem.W.codeIn K cd_law_plan_of "_law_plan_of" = true)
    (k_law_plan_of : PySem.W.keepIn K (.ref f_law_plan_of) = true)
    (a_law_made_service : PySem.W.nsIn K mainGlobals "_law_made_service" = some (some (.ref f_law_made_service)))
    (l_law_made_service : K.lookup f_law_made_service = some ⟨oc_law_made_service, od_law_made_service, .func (PySem.W.fnOf "_law_made_service" "_law_made_service" (defArgs s_law_made_service) (defBody s_law_made_service) (defScope s_law_made_service) .none kV_law_made_service dc_law_made_service pm_law_made_service an_law_made_service cd_law_made_service ct_law_made_service), sl_law_made_service⟩)
    (c_law_made_service : PySem.W.codeIn K cd_law_made_service "_law_made_service" = true)
    (k_law_made_service : PySem.W.keepIn K (.ref f_law_made_service) = true)
    (a_law_goal : PySem.W.nsIn K mainGlobals "_law_goal" = some (some (.ref f_law_goal)))
    (l_law_goal : K.lookup f_law_goal = some ⟨oc_law_goal, od_law_goal, .func (PySem.W.fnOf "_law_goal" "_law_goal" (defArgs s_law_goal) (defBody s_law_goal) (defScope s_law_goal) .none kV_law_goal dc_law_goal pm_law_goal an_law_goal cd_law_goal ct_law_goal), sl_law_goal⟩)
    (c_law_goal : PySem.W.codeIn K cd_law_goal "_law_goal" = true)
    (k_law_goal : PySem.W.keepIn K (.ref f_law_goal) = true)
    (a_law_keys : PySem.W.nsIn K mainGlobals "_law_keys" = some (some (.ref f_law_keys)))
    (l_law_keys : K.lookup f_law_keys = some ⟨oc_law_keys, od_law_keys, .func (PySem.W.fnOf "_law_keys" "_law_keys" (defArgs s_law_keys) (defBody s_law_keys) (defScope s_law_keys) .none kV_law_keys dc_law_keys pm_law_keys an_law_keys cd_law_keys ct_law_keys), sl_law_keys⟩)
    (c_law_keys : PySem.W.codeIn K cd_law_keys "_law_keys" = true)
    (k_law_keys : PySem.W.keepIn K (.ref f_law_keys) = true)
    (a_law_sign_of : PySem.W.nsIn K mainGlobals "_law_sign_of" = some (some (.ref f_law_sign_of)))
    (l_law_sign_of : K.lookup f_law_sign_of = some ⟨oc_law_sign_of, od_law_sign_of, .func (PySem.W.fnOf "_law_sign_of" "_law_sign_of" (defArgs s_law_sign_of) (defBody s_law_sign_of) (defScope s_law_sign_of) .none kV_law_sign_of dc_law_sign_of pm_law_sign_of an_law_sign_of cd_law_sign_of ct_law_sign_of), sl_law_sign_of⟩)
    (c_law_sign_of : PySem.W.codeIn K cd_law_sign_of "_law_sign_of" = true)
    (k_law_sign_of : PySem.W.keepIn K (.ref f_law_sign_of) = true)
    (a_law_stands : PySem.W.nsIn K mainGlobals "_law_stands" = some (some (.ref f_law_stands)))
    (l_law_stands : K.lookup f_law_stands = some ⟨oc_law_stands, od_law_stands, .func (PySem.W.fnOf "_law_stands" "_law_stands" (defArgs s_law_stands) (defBody s_law_stands) (defScope s_law_stands) .none kV_law_stands dc_law_stands pm_law_stands an_law_stands cd_law_stands ct_law_stands), sl_law_stands⟩)
    (c_law_stands : PySem.W.codeIn K cd_law_stands "_law_stands" = true)
    (k_law_stands : PySem.W.keepIn K (.ref f_law_stands) = true)
    (a_law_tried : PySem.W.nsIn K mainGlobals "_law_tried" = some (some (.ref f_law_tried)))
    (l_law_tried : K.lookup f_law_tried = some ⟨oc_law_tried, od_law_tried, .func (PySem.W.fnOf "_law_tried" "_law_tried" (defArgs s_law_tried) (defBody s_law_tried) (defScope s_law_tried) .none kV_law_tried dc_law_tried pm_law_tried an_law_tried cd_law_tried ct_law_tried), sl_law_tried⟩)
    (c_law_tried : PySem.W.codeIn K cd_law_tried "_law_tried" = true)
    (k_law_tried : PySem.W.keepIn K (.ref f_law_tried) = true)
    (a_law_kin_plan : PySem.W.nsIn K mainGlobals "_law_kin_plan" = some (some (.ref f_law_kin_plan)))
    (l_law_kin_plan : K.lookup f_law_kin_plan = some ⟨oc_law_kin_plan, od_law_kin_plan, .func (PySem.W.fnOf "_law_kin_plan" "_law_kin_plan" (defArgs s_law_kin_plan) (defBody s_law_kin_plan) (defScope s_law_kin_plan) .none kV_law_kin_plan dc_law_kin_plan pm_law_kin_plan an_law_kin_plan cd_law_kin_plan ct_law_kin_plan), sl_law_kin_plan⟩)
    (c_law_kin_plan : PySem.W.codeIn K cd_law_kin_plan "_law_kin_plan" = true)
    (k_law_kin_plan : PySem.W.keepIn K (.ref f_law_kin_plan) = true)
    (a_law_bent_plan : PySem.W.nsIn K mainGlobals "_law_bent_plan" = some (some (.ref f_law_bent_plan)))
    (l_law_bent_plan : K.lookup f_law_bent_plan = some ⟨oc_law_bent_plan, od_law_bent_plan, .func (PySem.W.fnOf "_law_bent_plan" "_law_bent_plan" (defArgs s_law_bent_plan) (defBody s_law_bent_plan) (defScope s_law_bent_plan) .none kV_law_bent_plan dc_law_bent_plan pm_law_bent_plan an_law_bent_plan cd_law_bent_plan ct_law_bent_plan), sl_law_bent_plan⟩)
    (c_law_bent_plan : PySem.W.codeIn K cd_law_bent_plan "_law_bent_plan" = true)
    (k_law_bent_plan : PySem.W.keepIn K (.ref f_law_bent_plan) = true)
    (a_law_fits : PySem.W.nsIn K mainGlobals "_law_fits" = some (some (.ref f_law_fits)))
    (l_law_fits : K.lookup f_law_fits = some ⟨oc_law_fits, od_law_fits, .func (PySem.W.fnOf "_law_fits" "_law_fits" (defArgs s_law_fits) (defBody s_law_fits) (defScope s_law_fits) .none kV_law_fits dc_law_fits pm_law_fits an_law_fits cd_law_fits ct_law_fits), sl_law_fits⟩)
    (c_law_fits : PySem.W.codeIn K cd_law_fits "_law_fits" = true)
    (k_law_fits : PySem.W.keepIn K (.ref f_law_fits) = true)
    (a_law : PySem.W.nsIn K mainGlobals "law" = some (some (.ref f_law)))
    (l_law : K.lookup f_law = some ⟨oc_law, od_law, .func (PySem.W.fnOf "law" "law" (defArgs s_law) (defBody s_law) (defScope s_law) .none kV_law dc_law pm_law an_law cd_law ct_law), sl_law⟩)
    (c_law : PySem.W.codeIn K cd_law "law" = true)
    (k_law : PySem.W.keepIn K (.ref f_law) = true)
    (a_SIGNS : PySem.W.nsIn K mainGlobals "SIGNS" = some (some (.ref t_SIGNS)))
    (l_SIGNS : K.lookup t_SIGNS = some ⟨.type "tuple", od_SIGNS, .seq #[.str "!" k_SIGNS0, .str "?" k_SIGNS1] n_SIGNS, sl_SIGNS⟩)
    (a_LONGEST_NAME : PySem.W.nsIn K mainGlobals "LONGEST_NAME" = some (some (.int 8 k_LONGEST_NAME)))
    (nm_parting_talk_look : DL.nameAt l.prog 154 4 = "parting_talk.<locals>.look")
    (no_tabs : (K.all fun q => !He.emptyTab q.2) = true)
    (z_len : PySem.W.nsIn K mainGlobals "len" = some none)
    (z_int : PySem.W.nsIn K mainGlobals "int" = some none)
    (z_bool : PySem.W.nsIn K mainGlobals "bool" = some none)
    (z_abs : PySem.W.nsIn K mainGlobals "abs" = some none)
    (z_max : PySem.W.nsIn K mainGlobals "max" = some none)
    (z_min : PySem.W.nsIn K mainGlobals "min" = some none)
    (z_all : PySem.W.nsIn K mainGlobals "all" = some none)
    (z_range : PySem.W.nsIn K mainGlobals "range" = some none)
    (z_isinstance : PySem.W.nsIn K mainGlobals "isinstance" = some none)
    (z_enumerate : PySem.W.nsIn K mainGlobals "enumerate" = some none)
    (z_sorted : PySem.W.nsIn K mainGlobals "sorted" = some none)
    (z_list : PySem.W.nsIn K mainGlobals "list" = some none)
    (z_tuple : PySem.W.nsIn K mainGlobals "tuple" = some none)
    (z_repr : PySem.W.nsIn K mainGlobals "repr" = some none)
    : ∃ (fd : FuncData) (cs : List (Addr × Addr)), (∀ p ∈ cs, TabAt h K p.1 p.2) ∧ (∀ (s : Shared) (v : Value), BindsTo s fd ⟨[v], []⟩ [("script", v)]) ∧ ∀ base : Heap, K.In base → base.Ns mainGlobals mg → (∀ p ∈ cs, LamX.TabB base mg p.1 p.2) → FnG l.prog w K mg base 9 fa fd ["script"] (spLawT (cs.map (·.2)) K) := by
  have e0 := hfa.symm.trans (PySem.W.mg_of X G a_law)
  cases e0
  have TX : TXF mg := ⟨PySem.W.mg_none_of X G z_len, PySem.W.mg_none_of X G z_int, PySem.W.mg_none_of X G z_bool, PySem.W.mg_none_of X G z_abs, PySem.W.mg_none_of X G z_max, PySem.W.mg_none_of X G z_min, PySem.W.mg_none_of X G z_all, PySem.W.mg_none_of X G z_range, PySem.W.mg_none_of X G z_isinstance, PySem.W.mg_none_of X G z_enumerate, PySem.W.mg_none_of X G z_sorted, PySem.W.mg_none_of X G z_list, PySem.W.mg_none_of X G z_tuple, PySem.W.mg_none_of X G z_repr⟩
  have CL_Service : Cls K C_Service := ⟨pg_Service, hd_Service, po_Service, sa_Service⟩
  have MG_Service := PySem.W.mg_of X G a_Service
  have F_is_index := fun_mk (st := s_is_index) l_is_index c_is_index k_is_index
  have b_is_index := F_is_index.binds (ps := ["value", "count"]) fun _ _ _ _ _ _ us hl => match us, hl with | [_, _], _ => rfl
  have g_is_index := PySem.W.mg_of X G a_is_index
  have F_is_name := fun_mk (st := s_is_name) l_is_name c_is_name k_is_name
  have b_is_name := F_is_name.binds (ps := ["text"]) fun _ _ _ _ _ _ us hl => match us, hl with | [_], _ => rfl
  have g_is_name := PySem.W.mg_of X G a_is_name
  have F_check_step := fun_mk (st := s_check_step) l_check_step c_check_step k_check_step
  have b_check_step := F_check_step.binds (ps := ["step", "count"]) fun _ _ _ _ _ _ us hl => match us, hl with | [_, _], _ => rfl
  have g_check_step := PySem.W.mg_of X G a_check_step
  have F_next_rooms := fun_mk (st := s_next_rooms) l_next_rooms c_next_rooms k_next_rooms
  have b_next_rooms := F_next_rooms.binds (ps := ["room"]) fun _ _ _ _ _ _ us hl => match us, hl with | [_], _ => rfl
  have g_next_rooms := PySem.W.mg_of X G a_next_rooms
  have F_check_rooms := fun_mk (st := s_check_rooms) l_check_rooms c_check_rooms k_check_rooms
  have b_check_rooms := F_check_rooms.binds (ps := ["rooms"]) fun _ _ _ _ _ _ us hl => match us, hl with | [_], _ => rfl
  have g_check_rooms := PySem.W.mg_of X G a_check_rooms
  have F_split_groups := fun_mk (st := s_split_groups) l_split_groups c_split_groups k_split_groups
  have b_split_groups := F_split_groups.binds (ps := ["rooms", "groups"]) fun _ _ _ _ _ _ us hl => match us, hl with | [_, _], _ => rfl
  have g_split_groups := PySem.W.mg_of X G a_split_groups
  have F_alike_groups := fun_mk (st := s_alike_groups) l_alike_groups c_alike_groups k_alike_groups
  have b_alike_groups := F_alike_groups.binds (ps := ["rooms"]) fun _ _ _ _ _ _ us hl => match us, hl with | [_], _ => rfl
  have g_alike_groups := PySem.W.mg_of X G a_alike_groups
  have F_numbered_rooms := fun_mk (st := s_numbered_rooms) l_numbered_rooms c_numbered_rooms k_numbered_rooms
  have b_numbered_rooms := F_numbered_rooms.binds (ps := ["rooms", "groups"]) fun _ _ _ _ _ _ us hl => match us, hl with | [_, _], _ => rfl
  have g_numbered_rooms := PySem.W.mg_of X G a_numbered_rooms
  have F_least_rooms := fun_mk (st := s_least_rooms) l_least_rooms c_least_rooms k_least_rooms
  have b_least_rooms := F_least_rooms.binds (ps := ["rooms"]) fun _ _ _ _ _ _ us hl => match us, hl with | [_], _ => rfl
  have g_least_rooms := PySem.W.mg_of X G a_least_rooms
  have F_Service___init__ := fun_mk (st := s_Service___init__) l_Service___init__ c_Service___init__ k_Service___init__
  have b_Service___init__ := F_Service___init__.binds (ps := ["self", "rooms"]) fun _ _ _ _ _ _ us hl => match us, hl with | [_, _], _ => rfl
  have M_Service___init__ : Meth K C_Service "__init__" f_Service___init__ := ⟨a_Service___init__, i_Service___init__, k_Service___init__⟩
  have F_Service_rooms := fun_mk (st := s_Service_rooms) l_Service_rooms c_Service_rooms k_Service_rooms
  have b_Service_rooms := F_Service_rooms.binds (ps := ["self"]) fun _ _ _ _ _ _ us hl => match us, hl with | [_], _ => rfl
  have PO_Service_rooms : PropOf K C_Service "rooms" pr_Service_rooms f_Service_rooms := ⟨a_Service_rooms, pg_Service_rooms, pt_Service_rooms, ⟨_, pc_Service_rooms⟩⟩
  have F_Service_lines := fun_mk (st := s_Service_lines) l_Service_lines c_Service_lines k_Service_lines
  have b_Service_lines := F_Service_lines.binds (ps := ["self"]) fun _ _ _ _ _ _ us hl => match us, hl with | [_], _ => rfl
  have PO_Service_lines : PropOf K C_Service "lines" pr_Service_lines f_Service_lines := ⟨a_Service_lines, pg_Service_lines, pt_Service_lines, ⟨_, pc_Service_lines⟩⟩
  have F_is_plain := fun_mk (st := s_is_plain) l_is_plain c_is_plain k_is_plain
  have b_is_plain := F_is_plain.binds (ps := ["service"]) fun _ _ _ _ _ _ us hl => match us, hl with | [_], _ => rfl
  have g_is_plain := PySem.W.mg_of X G a_is_plain
  have F_shared_ways := fun_mk (st := s_shared_ways) l_shared_ways c_shared_ways k_shared_ways
  have b_shared_ways := F_shared_ways.binds (ps := ["room", "partner"]) fun _ _ _ _ _ _ us hl => match us, hl with | [_, _], _ => rfl
  have g_shared_ways := PySem.W.mg_of X G a_shared_ways
  have F_first_row := fun_mk (st := s_first_row) l_first_row c_first_row k_first_row
  have b_first_row := F_first_row.binds (ps := ["look"]) fun _ _ _ _ _ _ us hl => match us, hl with | [_], _ => rfl
  have g_first_row := PySem.W.mg_of X G a_first_row
  have F_sign_of := fun_mk (st := s_sign_of) l_sign_of c_sign_of k_sign_of
  have b_sign_of := F_sign_of.binds (ps := ["room"]) fun _ _ _ _ _ _ us hl => match us, hl with | [_], _ => rfl
  have g_sign_of := PySem.W.mg_of X G a_sign_of
  have F_has_steps_of := fun_mk (st := s_has_steps_of) l_has_steps_of c_has_steps_of k_has_steps_of
  have b_has_steps_of := F_has_steps_of.binds (ps := ["room", "partner"]) fun _ _ _ _ _ _ us hl => match us, hl with | [_, _], _ => rfl
  have g_has_steps_of := PySem.W.mg_of X G a_has_steps_of
  have F_stands := fun_mk (st := s_stands) l_stands c_stands k_stands
  have b_stands := F_stands.binds (ps := ["partner", "room"]) fun _ _ _ _ _ _ us hl => match us, hl with | [_, _], _ => rfl
  have g_stands := PySem.W.mg_of X G a_stands
  have F_check_plain := fun_mk (st := s_check_plain) l_check_plain c_check_plain k_check_plain
  have b_check_plain := F_check_plain.binds (ps := ["one", "other"]) fun _ _ _ _ _ _ us hl => match us, hl with | [_, _], _ => rfl
  have g_check_plain := PySem.W.mg_of X G a_check_plain
  have F_parting_talk := funC_mk (st := s_parting_talk) l_parting_talk c_parting_talk k_parting_talk
  have b_parting_talk := F_parting_talk.toFun.binds (ps := ["other", "one"]) fun _ _ _ _ _ _ us hl => match us, hl with | [_, _], _ => rfl
  have g_parting_talk := PySem.W.mg_of X G a_parting_talk
  have F_law_mint := fun_mk (st := s_law_mint) l_law_mint c_law_mint k_law_mint
  have b_law_mint := F_law_mint.binds (ps := ["script", "place"]) fun _ _ _ _ _ _ us hl => match us, hl with | [_, _], _ => rfl
  have g_law_mint := PySem.W.mg_of X G a_law_mint
  have F_law_coin := fun_mk (st := s_law_coin) l_law_coin c_law_coin k_law_coin
  have b_law_coin := F_law_coin.binds (ps := ["mint", "many"]) fun _ _ _ _ _ _ us hl => match us, hl with | [_, _], _ => rfl
  have g_law_coin := PySem.W.mg_of X G a_law_coin
  have F_law_labels := fun_mk (st := s_law_labels) l_law_labels c_law_labels k_law_labels
  have b_law_labels := F_law_labels.binds (ps := ["mint", "many"]) fun _ _ _ _ _ _ us hl => match us, hl with | [_, _], _ => rfl
  have g_law_labels := PySem.W.mg_of X G a_law_labels
  have F_law_room_steps := fun_mk (st := s_law_room_steps) l_law_room_steps c_law_room_steps k_law_room_steps
  have b_law_room_steps := F_law_room_steps.binds (ps := ["mint", "count", "lines_here", "words_here", "one_sign"]) fun _ _ _ _ _ _ us hl => match us, hl with | [_, _, _, _, _], _ => rfl
  have g_law_room_steps := PySem.W.mg_of X G a_law_room_steps
  have F_law_plan_of := fun_mk (st := s_law_plan_of) l_law_plan_of c_law_plan_of k_law_plan_of
  have b_law_plan_of := F_law_plan_of.binds (ps := ["mint", "most", "lines_here", "words_here", "one_sign"]) fun _ _ _ _ _ _ us hl => match us, hl with | [_, _, _, _, _], _ => rfl
  have g_law_plan_of := PySem.W.mg_of X G a_law_plan_of
  have F_law_made_service := fun_mk (st := s_law_made_service) l_law_made_service c_law_made_service k_law_made_service
  have b_law_made_service := F_law_made_service.binds (ps := ["plan"]) fun _ _ _ _ _ _ us hl => match us, hl with | [_], _ => rfl
  have g_law_made_service := PySem.W.mg_of X G a_law_made_service
  have F_law_goal := fun_mk (st := s_law_goal) l_law_goal c_law_goal k_law_goal
  have b_law_goal := F_law_goal.binds (ps := ["steps_here", "key"]) fun _ _ _ _ _ _ us hl => match us, hl with | [_, _], _ => rfl
  have g_law_goal := PySem.W.mg_of X G a_law_goal
  have F_law_keys := fun_mk (st := s_law_keys) l_law_keys c_law_keys k_law_keys
  have b_law_keys := F_law_keys.binds (ps := ["steps_here"]) fun _ _ _ _ _ _ us hl => match us, hl with | [_], _ => rfl
  have g_law_keys := PySem.W.mg_of X G a_law_keys
  have F_law_sign_of := fun_mk (st := s_law_sign_of) l_law_sign_of c_law_sign_of k_law_sign_of
  have b_law_sign_of := F_law_sign_of.binds (ps := ["steps_here"]) fun _ _ _ _ _ _ us hl => match us, hl with | [_], _ => rfl
  have g_law_sign_of := PySem.W.mg_of X G a_law_sign_of
  have F_law_stands := fun_mk (st := s_law_stands) l_law_stands c_law_stands k_law_stands
  have b_law_stands := F_law_stands.binds (ps := ["mine", "its"]) fun _ _ _ _ _ _ us hl => match us, hl with | [_, _], _ => rfl
  have g_law_stands := PySem.W.mg_of X G a_law_stands
  have F_law_tried := fun_mk (st := s_law_tried) l_law_tried c_law_tried k_law_tried
  have b_law_tried := F_law_tried.binds (ps := ["base", "mate"]) fun _ _ _ _ _ _ us hl => match us, hl with | [_, _], _ => rfl
  have g_law_tried := PySem.W.mg_of X G a_law_tried
  have F_law_kin_plan := fun_mk (st := s_law_kin_plan) l_law_kin_plan c_law_kin_plan k_law_kin_plan
  have b_law_kin_plan := F_law_kin_plan.binds (ps := ["mint", "plan", "line", "words_here"]) fun _ _ _ _ _ _ us hl => match us, hl with | [_, _, _, _], _ => rfl
  have g_law_kin_plan := PySem.W.mg_of X G a_law_kin_plan
  have F_law_bent_plan := fun_mk (st := s_law_bent_plan) l_law_bent_plan c_law_bent_plan k_law_bent_plan
  have b_law_bent_plan := F_law_bent_plan.binds (ps := ["mint", "plan", "lines_here", "words_here"]) fun _ _ _ _ _ _ us hl => match us, hl with | [_, _, _, _], _ => rfl
  have g_law_bent_plan := PySem.W.mg_of X G a_law_bent_plan
  have F_law_fits := fun_mk (st := s_law_fits) l_law_fits c_law_fits k_law_fits
  have b_law_fits := F_law_fits.binds (ps := ["mint"]) fun _ _ _ _ _ _ us hl => match us, hl with | [_], _ => rfl
  have g_law_fits := PySem.W.mg_of X G a_law_fits
  have F_law := fun_mk (st := s_law) l_law c_law k_law
  have b_law := F_law.binds (ps := ["script"]) fun _ _ _ _ _ _ us hl => match us, hl with | [_], _ => rfl
  have g_law := PySem.W.mg_of X G a_law
  have MK_Service : Mk K C_Service f_Service___init__ := ⟨mk_Service, a_Service___init__, i_Service___init__, kc_Service⟩
  have S_SIGNS : ∀ F P, DV ⟨P, w, K⟩ F (.ref t_SIGNS) (.tup [.str "!", .str "?"]) := fun F P => by
    simp only [DV]
    exact ⟨_, [.str "!", .str "?"], rfl, .inr ⟨_, _, _, l_SIGNS, rfl, rfl, (show 2 ≤ sizeLine by decide +kernel), .cons ⟨_, rfl⟩ (.cons ⟨_, rfl⟩ (.nil))⟩, .cons (by simp only [DV]) (.cons (by simp only [DV]) (.nil))⟩
  have G_SIGNS := PySem.W.mg_of X G a_SIGNS
  have G_LONGEST_NAME := PySem.W.mg_of X G a_LONGEST_NAME
  obtain ⟨tP_parting_talk, TA_parting_talk⟩ := tab_at (DT "parting_talk" (by simp)) X no_tabs g_parting_talk F_parting_talk
  have TAS : ∀ p ∈ [(cd_parting_talk, tP_parting_talk)], TabAt h K p.1 p.2 := by
    intro p hp
    simp only [List.mem_cons, List.not_mem_nil, or_false] at hp
    rcases hp with rfl
    · exact TA_parting_talk
  refine ⟨PySem.W.fnOf "law" "law" (defArgs s_law) (defBody s_law) (defScope s_law) .none kV_law dc_law pm_law an_law cd_law ct_law, [(cd_parting_talk, tP_parting_talk)], TAS, fun s v => .of_eq rfl, fun base _ _ TBS => ?_⟩
  have TB_parting_talk : LamX.TabB base mg cd_parting_talk tP_parting_talk := TBS (cd_parting_talk, tP_parting_talk) (by simp)
  have C_is_index : Cal l.prog w K mg base CX0 "is_index" 1 ["value", "count"] (spP ⟨l.prog, w, K⟩ SIndex) := ⟨f_is_index, _, ok_index F_is_index TX, g_is_index, k_is_index, b_is_index⟩
  have C_is_name : Cal l.prog w K mg base CX0 "is_name" 1 ["text"] (spP ⟨l.prog, w, K⟩ SName) := ⟨f_is_name, _, ok_name F_is_name TX (uL := .int 8 k_LONGEST_NAME) ⟨G_LONGEST_NAME, ⟨_, rfl⟩⟩, g_is_name, k_is_name, b_is_name⟩
  have C_check_step : Cal l.prog w K mg base CX0 "check_step" 2 ["step", "count"] (spP ⟨l.prog, w, K⟩ SCheckStep) := ⟨f_check_step, _, ok_check_step F_check_step TX C_is_index C_is_name ⟨G_SIGNS, rfl⟩ fun F => S_SIGNS F l.prog, g_check_step, k_check_step, b_check_step⟩
  have C_next_rooms : Cal l.prog w K mg base CX0 "next_rooms" 1 ["room"] (spP ⟨l.prog, w, K⟩ SNext) := ⟨f_next_rooms, _, ok_next_rooms F_next_rooms TX, g_next_rooms, k_next_rooms, b_next_rooms⟩
  have C_check_rooms : Cal l.prog w K mg base CX0 "check_rooms" 3 ["rooms"] (spP ⟨l.prog, w, K⟩ SCheckRooms) := ⟨f_check_rooms, _, ok_check_rooms F_check_rooms TX C_check_step C_next_rooms, g_check_rooms, k_check_rooms, b_check_rooms⟩
  have C_split_groups : Cal l.prog w K mg base CX0 "split_groups" 1 ["rooms", "groups"] (spP ⟨l.prog, w, K⟩ SSplit) := ⟨f_split_groups, _, ok_split F_split_groups TX, g_split_groups, k_split_groups, b_split_groups⟩
  have C_alike_groups : Cal l.prog w K mg base CX0 "alike_groups" 2 ["rooms"] (spP ⟨l.prog, w, K⟩ SAlike) := ⟨f_alike_groups, _, ok_alike F_alike_groups TX C_split_groups, g_alike_groups, k_alike_groups, b_alike_groups⟩
  have C_numbered_rooms : Cal l.prog w K mg base CX0 "numbered_rooms" 1 ["rooms", "groups"] (spP ⟨l.prog, w, K⟩ SNumbered) := ⟨f_numbered_rooms, _, ok_numbered F_numbered_rooms TX, g_numbered_rooms, k_numbered_rooms, b_numbered_rooms⟩
  have C_least_rooms : Cal l.prog w K mg base CX0 "least_rooms" 3 ["rooms"] (spP ⟨l.prog, w, K⟩ SLeast) := ⟨f_least_rooms, _, ok_least F_least_rooms TX C_alike_groups C_numbered_rooms, g_least_rooms, k_least_rooms, b_least_rooms⟩
  let C_Service___init__ : CalM l.prog w K mg base 4 f_Service___init__ ["self", "rooms"] (spM ⟨l.prog, w, K⟩ (SInit C_Service)) := ⟨_, ok_init F_Service___init__ TX CL_Service na_Service_rooms C_check_rooms C_least_rooms, b_Service___init__⟩
  let C_Service_rooms : CalM l.prog w K mg base 1 f_Service_rooms ["self"] (spP ⟨l.prog, w, K⟩ (SRooms C_Service)) := ⟨_, ok_rooms F_Service_rooms TX CL_Service na_Service_rooms, b_Service_rooms⟩
  let C_Service_lines : CalM l.prog w K mg base 1 f_Service_lines ["self"] (spP ⟨l.prog, w, K⟩ (SLines C_Service)) := ⟨_, ok_lines F_Service_lines TX CL_Service na_Service_rooms, b_Service_lines⟩
  have C_is_plain : Cal l.prog w K mg base CX0 "is_plain" 3 ["service"] (spP ⟨l.prog, w, K⟩ (SIsPlain C_Service)) := ⟨f_is_plain, _, ok_is_plain F_is_plain TX CL_Service C_Service_rooms PO_Service_rooms C_Service_lines PO_Service_lines, g_is_plain, k_is_plain, b_is_plain⟩
  have C_shared_ways : Cal l.prog w K mg base CX0 "shared_ways" 2 ["room", "partner"] (spP ⟨l.prog, w, K⟩ SShared) := ⟨f_shared_ways, _, ok_shared_ways F_shared_ways TX C_next_rooms, g_shared_ways, k_shared_ways, b_shared_ways⟩
  have C_first_row : CalF l.prog w K mg base "first_row" 5 ["look"] (spF l.prog w K mg base 4 SFirstRow) := ⟨f_first_row, _, ok_first_row F_first_row TX, g_first_row, k_first_row, b_first_row⟩
  have C_sign_of : Cal l.prog w K mg base CX0 "sign_of" 1 ["room"] (spP ⟨l.prog, w, K⟩ SSignOf) := ⟨f_sign_of, _, ok_sign_of F_sign_of TX, g_sign_of, k_sign_of, b_sign_of⟩
  have C_has_steps_of : Cal l.prog w K mg base CX0 "has_steps_of" 2 ["room", "partner"] (spP ⟨l.prog, w, K⟩ SHasOf) := ⟨f_has_steps_of, _, ok_has_steps_of F_has_steps_of TX C_next_rooms, g_has_steps_of, k_has_steps_of, b_has_steps_of⟩
  have C_stands : Cal l.prog w K mg base CX0 "stands" 3 ["partner", "room"] (spP ⟨l.prog, w, K⟩ SStands) := ⟨f_stands, _, ok_stands F_stands TX C_sign_of C_has_steps_of, g_stands, k_stands, b_stands⟩
  have C_check_plain : Cal l.prog w K mg base CX0 "check_plain" 4 ["one", "other"] (spP ⟨l.prog, w, K⟩ (SCheckPlain C_Service)) := ⟨f_check_plain, _, ok_check_plain F_check_plain TX CL_Service C_is_plain C_Service_lines PO_Service_lines, g_check_plain, k_check_plain, b_check_plain⟩
  have C_parting_talk : Cal l.prog w K mg base CX0 "parting_talk" 6 ["other", "one"] (spT ⟨l.prog, w, K⟩ [tP_parting_talk] (SParting C_Service)) := ⟨f_parting_talk, _, ok_parting F_parting_talk TX TB_parting_talk nm_parting_talk_look CL_Service C_check_plain C_Service_rooms PO_Service_rooms C_stands C_shared_ways C_first_row, g_parting_talk, k_parting_talk, b_parting_talk⟩
  have C_law_mint : Cal l.prog w K mg base CX0 "_law_mint" 1 ["script", "place"] (spP ⟨l.prog, w, K⟩ SMint) := ⟨f_law_mint, _, ok_mint F_law_mint TX, g_law_mint, k_law_mint, b_law_mint⟩
  have C_law_coin : Cal l.prog w K mg base CX0 "_law_coin" 1 ["mint", "many"] (spM ⟨l.prog, w, K⟩ SCoin) := ⟨f_law_coin, _, ok_coin F_law_coin TX, g_law_coin, k_law_coin, b_law_coin⟩
  have C_law_labels : Cal l.prog w K mg base CX0 "_law_labels" 2 ["mint", "many"] (spM ⟨l.prog, w, K⟩ SLabels) := ⟨f_law_labels, _, ok_labels F_law_labels TX C_law_coin, g_law_labels, k_law_labels, b_law_labels⟩
  have C_law_room_steps : Cal l.prog w K mg base CX0 "_law_room_steps" 2 ["mint", "count", "lines_here", "words_here", "one_sign"] (spM ⟨l.prog, w, K⟩ SRoomStepsL) := ⟨f_law_room_steps, _, okL_room_steps F_law_room_steps TX C_law_coin, g_law_room_steps, k_law_room_steps, b_law_room_steps⟩
  have C_law_plan_of : Cal l.prog w K mg base CX0 "_law_plan_of" 3 ["mint", "most", "lines_here", "words_here", "one_sign"] (spM ⟨l.prog, w, K⟩ SPlanOfL) := ⟨f_law_plan_of, _, okL_plan_of F_law_plan_of TX C_law_coin C_law_room_steps, g_law_plan_of, k_law_plan_of, b_law_plan_of⟩
  have C_law_made_service : Cal l.prog w K mg base CX0 "_law_made_service" 6 ["plan"] (spP ⟨l.prog, w, K⟩ (SMade C_Service)) := ⟨f_law_made_service, _, ok_made F_law_made_service TX MK_Service MG_Service C_Service___init__, g_law_made_service, k_law_made_service, b_law_made_service⟩
  have C_law_goal : Cal l.prog w K mg base CX0 "_law_goal" 1 ["steps_here", "key"] (spP ⟨l.prog, w, K⟩ SGoal) := ⟨f_law_goal, _, ok_goal F_law_goal TX, g_law_goal, k_law_goal, b_law_goal⟩
  have C_law_keys : Cal l.prog w K mg base CX0 "_law_keys" 1 ["steps_here"] (spP ⟨l.prog, w, K⟩ SKeys) := ⟨f_law_keys, _, ok_keys F_law_keys TX, g_law_keys, k_law_keys, b_law_keys⟩
  have C_law_sign_of : Cal l.prog w K mg base CX0 "_law_sign_of" 1 ["steps_here"] (spP ⟨l.prog, w, K⟩ SSignL) := ⟨f_law_sign_of, _, ok_law_sign_of F_law_sign_of TX, g_law_sign_of, k_law_sign_of, b_law_sign_of⟩
  have C_law_stands : Cal l.prog w K mg base CX0 "_law_stands" 2 ["mine", "its"] (spP ⟨l.prog, w, K⟩ SLStands) := ⟨f_law_stands, _, ok_law_stands F_law_stands TX C_law_sign_of C_law_keys, g_law_stands, k_law_stands, b_law_stands⟩
  have C_law_tried : Cal l.prog w K mg base CX0 "_law_tried" 3 ["base", "mate"] (spP ⟨l.prog, w, K⟩ STried) := ⟨f_law_tried, _, ok_tried F_law_tried TX C_law_sign_of C_law_keys C_law_goal C_law_stands, g_law_tried, k_law_tried, b_law_tried⟩
  have C_law_kin_plan : Cal l.prog w K mg base CX0 "_law_kin_plan" 2 ["mint", "plan", "line", "words_here"] (spM ⟨l.prog, w, K⟩ SKin) := ⟨f_law_kin_plan, _, ok_kin F_law_kin_plan TX C_law_coin C_law_sign_of, g_law_kin_plan, k_law_kin_plan, b_law_kin_plan⟩
  have C_law_bent_plan : Cal l.prog w K mg base CX0 "_law_bent_plan" 2 ["mint", "plan", "lines_here", "words_here"] (spM ⟨l.prog, w, K⟩ SBent) := ⟨f_law_bent_plan, _, ok_bent F_law_bent_plan TX C_law_coin, g_law_bent_plan, k_law_bent_plan, b_law_bent_plan⟩
  have C_law_fits : CalG l.prog w K mg base "_law_fits" 8 ["mint"] (spMT ⟨l.prog, w, K⟩ [tP_parting_talk] SFits) := ⟨f_law_fits, _, ok_fits F_law_fits TX C_law_coin C_law_labels C_law_plan_of C_law_kin_plan C_law_bent_plan C_law_tried C_law_made_service C_parting_talk, g_law_fits, k_law_fits, b_law_fits⟩
  exact ok_law F_law TX C_law_mint C_law_fits
theorem walk {l : PySem.W.OpenLaw} {q : Program} {loose : List Str} {XP : (Str → Option Value) → Heap → Prop} {YP : World → Heap → Prop} {d : DefRec} {K : Params → PySem.W.Frag} (hn : l.most = some 63) (hdf : d.params.defaults = [])
    (hY : ∀ (w : World) (h : Heap), YP w h → (K w.params).In h)
    (rec : ∀ y ∈ (["parting_talk"] : List Str), ((PyProof.Rows.recsOf q).any fun e => e.name == y) = true) (F : ∀ (w : World) (mg : Str → Option Value) (fa : Addr) (h : Heap), (K w.params).In h → h.Ns mainGlobals mg → (∀ y ∈ (["parting_talk"] : List Str), DefTabs mg h y) → mg d.name = some (.ref fa) →
      ∃ (fd : FuncData) (cs : List (Addr × Addr)), (∀ p ∈ cs, TabAt h (K w.params) p.1 p.2) ∧ (∀ (s : Shared) (v : Value), BindsTo s fd ⟨[v], []⟩ [("script", v)]) ∧ ∀ base : Heap, (K w.params).In base → base.Ns mainGlobals mg → (∀ p ∈ cs, LamX.TabB base mg p.1 p.2) → FnG l.prog w (K w.params) mg base 9 fa fd ["script"] (spLawT (cs.map (·.2)) (K w.params))) :
    PySem.W.WalkO q loose XP YP l.row.toRowW d [] (fun f vs => PySem.call f vs) :=
  walk_ofGT (n := 63) (k := 9) (sp := spLawT) (["parting_talk"] : List Str) hn (by decide) hdf ⟨rfl, by decide, by decide⟩ hY rec F fun _ _ _ a ns hl hT hS => ⟨a, ns, rfl, hS, hT, hl, fun _ => rfl⟩
end K
set_option maxRecDepth 100000 in
set_option maxHeartbeats 0 in
open PySem PySem.W PyProof.Rows in
theorem PySem.Challenge.cw_emptyfirst_k15_short_talks_tried_holds : PySem.Challenge.rw_emptyfirst_k15_short_talks_tried.Holds := by
  w_on; o_law; k_head; (case hw => w_witness2)
  k_fill
  refine K.walk (l := PySem.Challenge.rw_emptyfirst_k15_short_talks_tried) rfl rfl (fun w h Y => PySem.W.km_in_of Y) ?rec ?F
  case rec =>
    intro y hy
    simp only [List.mem_cons, List.not_mem_nil, or_false] at hy
    rcases hy with rfl <;> kernel_rfl
  case F =>
    intro w mg fa h KX G DT hmg
    refine' K.all_mk KX G hmg DT ?a_Service ?pg_Service ?hd_Service ?po_Service ?sa_Service ?mk_Service ?kc_Service ?na_Service_rooms ?a_is_index ?l_is_index ?c_is_index ?k_is_index ?a_is_name ?l_is_name ?c_is_name ?k_is_name ?a_check_step ?l_check_step ?c_check_step ?k_check_step ?a_next_rooms ?l_next_rooms ?c_next_rooms ?k_next_rooms ?a_check_rooms ?l_check_rooms ?c_check_rooms ?k_check_rooms ?a_split_groups ?l_split_groups ?c_split_groups ?k_split_groups ?a_alike_groups ?l_alike_groups ?c_alike_groups ?k_alike_groups ?a_numbered_rooms ?l_numbered_rooms ?c_numbered_rooms ?k_numbered_rooms ?a_least_rooms ?l_least_rooms ?c_least_rooms ?k_least_rooms ?a_Service___init__ ?i_Service___init__ ?l_Service___init__ ?c_Service___init__ ?k_Service___init__ ?a_Service_rooms ?pg_Service_rooms ?pt_Service_rooms ?pc_Service_rooms ?l_Service_rooms ?c_Service_rooms ?k_Service_rooms ?a_Service_lines ?pg_Service_lines ?pt_Service_lines ?pc_Service_lines ?l_Service_lines ?c_Service_lines ?k_Service_lines ?a_is_plain ?l_is_plain ?c_is_plain ?k_is_plain ?a_shared_ways ?l_shared_ways ?c_shared_ways ?k_shared_ways ?a_first_row ?l_first_row ?c_first_row ?k_first_row ?a_sign_of ?l_sign_of ?c_sign_of ?k_sign_of ?a_has_steps_of ?l_has_steps_of ?c_has_steps_of ?k_has_steps_of ?a_stands ?l_stands ?c_stands ?k_stands ?a_check_plain ?l_check_plain ?c_check_plain ?k_check_plain ?a_parting_talk ?l_parting_talk ?c_parting_talk ?k_parting_talk ?a_law_mint ?l_law_mint ?c_law_mint ?k_law_mint ?a_law_coin ?l_law_coin ?c_law_coin ?k_law_coin ?a_law_labels ?l_law_labels ?c_law_labels ?k_law_labels ?a_law_room_steps ?l_law_room_steps ?c_law_room_steps ?k_law_room_steps ?a_law_plan_of ?l_law_plan_of ?c_law_plan_of ?k_law_plan_of ?a_law_made_service ?l_law_made_service ?c_law_made_service ?k_law_made_service ?a_law_goal ?l_law_goal ?c_law_goal ?k_law_goal ?a_law_keys ?l_law_keys ?c_law_keys ?k_law_keys ?a_law_sign_of ?l_law_sign_of ?c_law_sign_of ?k_law_sign_of ?a_law_stands ?l_law_stands ?c_law_stands ?k_law_stands ?a_law_tried ?l_law_tried ?c_law_tried ?k_law_tried ?a_law_kin_plan ?l_law_kin_plan ?c_law_kin_plan ?k_law_kin_plan ?a_law_bent_plan ?l_law_bent_plan ?c_law_bent_plan ?k_law_bent_plan ?a_law_fits ?l_law_fits ?c_law_fits ?k_law_fits ?a_law ?l_law ?c_law ?k_law ?a_SIGNS ?l_SIGNS ?a_LONGEST_NAME ?nm_parting_talk_look ?no_tabs ?z_len ?z_int ?z_bool ?z_abs ?z_max ?z_min ?z_all ?z_range ?z_isinstance ?z_enumerate ?z_sorted ?z_list ?z_tuple ?z_repr
    (case a_Service => k_is)
    (case pg_Service => k_is)
    (case hd_Service => k_is)
    (case po_Service => k_is)
    (case sa_Service => k_is)
    (case mk_Service => k_is)
    (case kc_Service => k_is)
    (case na_Service_rooms => k_is)
    (case a_is_index => k_is)
    (case l_is_index => k_is)
    (case c_is_index => k_is)
    (case k_is_index => k_is)
    (case a_is_name => k_is)
    (case l_is_name => k_is)
    (case c_is_name => k_is)
    (case k_is_name => k_is)
    (case a_check_step => k_is)
    (case l_check_step => k_is)
    (case c_check_step => k_is)
    (case k_check_step => k_is)
    (case a_next_rooms => k_is)
    (case l_next_rooms => k_is)
    (case c_next_rooms => k_is)
    (case k_next_rooms => k_is)
    (case a_check_rooms => k_is)
    (case l_check_rooms => k_is)
    (case c_check_rooms => k_is)
    (case k_check_rooms => k_is)
    (case a_split_groups => k_is)
    (case l_split_groups => k_is)
    (case c_split_groups => k_is)
    (case k_split_groups => k_is)
    (case a_alike_groups => k_is)
    (case l_alike_groups => k_is)
    (case c_alike_groups => k_is)
    (case k_alike_groups => k_is)
    (case a_numbered_rooms => k_is)
    (case l_numbered_rooms => k_is)
    (case c_numbered_rooms => k_is)
    (case k_numbered_rooms => k_is)
    (case a_least_rooms => k_is)
    (case l_least_rooms => k_is)
    (case c_least_rooms => k_is)
    (case k_least_rooms => k_is)
    (case a_Service___init__ => k_is)
    (case i_Service___init__ => k_is)
    (case l_Service___init__ => k_is)
    (case c_Service___init__ => k_is)
    (case k_Service___init__ => k_is)
    (case a_Service_rooms => k_is)
    (case pg_Service_rooms => k_is)
    (case pt_Service_rooms => k_is)
    (case pc_Service_rooms => k_is)
    (case l_Service_rooms => k_is)
    (case c_Service_rooms => k_is)
    (case k_Service_rooms => k_is)
    (case a_Service_lines => k_is)
    (case pg_Service_lines => k_is)
    (case pt_Service_lines => k_is)
    (case pc_Service_lines => k_is)
    (case l_Service_lines => k_is)
    (case c_Service_lines => k_is)
    (case k_Service_lines => k_is)
    (case a_is_plain => k_is)
    (case l_is_plain => k_is)
    (case c_is_plain => k_is)
    (case k_is_plain => k_is)
    (case a_shared_ways => k_is)
    (case l_shared_ways => k_is)
    (case c_shared_ways => k_is)
    (case k_shared_ways => k_is)
    (case a_first_row => k_is)
    (case l_first_row => k_is)
    (case c_first_row => k_is)
    (case k_first_row => k_is)
    (case a_sign_of => k_is)
    (case l_sign_of => k_is)
    (case c_sign_of => k_is)
    (case k_sign_of => k_is)
    (case a_has_steps_of => k_is)
    (case l_has_steps_of => k_is)
    (case c_has_steps_of => k_is)
    (case k_has_steps_of => k_is)
    (case a_stands => k_is)
    (case l_stands => k_is)
    (case c_stands => k_is)
    (case k_stands => k_is)
    (case a_check_plain => k_is)
    (case l_check_plain => k_is)
    (case c_check_plain => k_is)
    (case k_check_plain => k_is)
    (case a_parting_talk => k_is)
    (case l_parting_talk => k_is)
    (case c_parting_talk => k_is)
    (case k_parting_talk => k_is)
    (case a_law_mint => k_is)
    (case l_law_mint => k_is)
    (case c_law_mint => k_is)
    (case k_law_mint => k_is)
    (case a_law_coin => k_is)
    (case l_law_coin => k_is)
    (case c_law_coin => k_is)
    (case k_law_coin => k_is)
    (case a_law_labels => k_is)
    (case l_law_labels => k_is)
    (case c_law_labels => k_is)
    (case k_law_labels => k_is)
    (case a_law_room_steps => k_is)
    (case l_law_room_steps => k_is)
    (case c_law_room_steps => k_is)
    (case k_law_room_steps => k_is)
    (case a_law_plan_of => k_is)
    (case l_law_plan_of => k_is)
    (case c_law_plan_of => k_is)
    (case k_law_plan_of => k_is)
    (case a_law_made_service => k_is)
    (case l_law_made_service => k_is)
    (case c_law_made_service => k_is)
    (case k_law_made_service => k_is)
    (case a_law_goal => k_is)
    (case l_law_goal => k_is)
    (case c_law_goal => k_is)
    (case k_law_goal => k_is)
    (case a_law_keys => k_is)
    (case l_law_keys => k_is)
    (case c_law_keys => k_is)
    (case k_law_keys => k_is)
    (case a_law_sign_of => k_is)
    (case l_law_sign_of => k_is)
    (case c_law_sign_of => k_is)
    (case k_law_sign_of => k_is)
    (case a_law_stands => k_is)
    (case l_law_stands => k_is)
    (case c_law_stands => k_is)
    (case k_law_stands => k_is)
    (case a_law_tried => k_is)
    (case l_law_tried => k_is)
    (case c_law_tried => k_is)
    (case k_law_tried => k_is)
    (case a_law_kin_plan => k_is)
    (case l_law_kin_plan => k_is)
    (case c_law_kin_plan => k_is)
    (case k_law_kin_plan => k_is)
    (case a_law_bent_plan => k_is)
    (case l_law_bent_plan => k_is)
    (case c_law_bent_plan => k_is)
    (case k_law_bent_plan => k_is)
    (case a_law_fits => k_is)
    (case l_law_fits => k_is)
    (case c_law_fits => k_is)
    (case k_law_fits => k_is)
    (case a_law => k_is)
    (case l_law => k_is)
    (case c_law => k_is)
    (case k_law => k_is)
    (case a_SIGNS => k_is)
    (case l_SIGNS => k_is)
    (case a_LONGEST_NAME => k_is)
    (case nm_parting_talk_look => kernel_rfl)
    (case no_tabs => kernel_rfl)
    (case z_len => k_is)
    (case z_int => k_is)
    (case z_bool => k_is)
    (case z_abs => k_is)
    (case z_max => k_is)
    (case z_min => k_is)
    (case z_all => k_is)
    (case z_range => k_is)
    (case z_isinstance => k_is)
    (case z_enumerate => k_is)
    (case z_sorted => k_is)
    (case z_list => k_is)
    (case z_tuple => k_is)
    (case z_repr => k_is)

