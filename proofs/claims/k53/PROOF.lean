import PyProof.Rows.All
import Wide.All
import OpenK.AllK
import Wide.FinOn
import HandS.ForMost
import HandS.Walk
import HandS.Wide
import HandS.TupAny
import HandS.TupMul
import HandS.TupLe
import HandS.IsInst
import HandS.Deep
import HandS.Conv
import KE.GoesEnum
import HandS.ExcInit
import HandS.ExcValue
import HandS.More
import HandS.StrMore
import HandS.Zip
import HandS.Style
import HandS.SetFor
import HandS.Dict
import HandS.SortRule
import PyProof.DictMoreH
import HandS.TupSets
import HandS.Strs
import PyProof.ReprRoads
import PyProof.FitsInt
import HandS.DictComp
import KE.GoesNew
import KE.KExcSuper
import KE.KSuper
import KE.KExcIs
import HandS.ExcIs
import HandS.ExcField
import HandS.FStr
import HandS.WordsExc
import HandS.TryOnly
import HandS.Flt
import HandS.SortInts
import HandS.Iter
import HandS.HotCalls
import HandS.Rev
import KE.KDictPairs
import PySem.Challenge.RW_beatswitch_k53_whole_none_waits_long
set_option Elab.async false
set_option linter.all false
set_option maxRecDepth 100000
set_option maxHeartbeats 4000000
set_option autoImplicit false
/-! VL: values by structure, objects by number; what a reading does, told over these. -/
namespace VL
open PySem L2

/-- a value: tuples by what they hold, other objects by their number -/
inductive VV where
  | non | bl (b : Bool) | int (i : Int) | str (x : Str) | tup (xs : List VV) | rol (xs : List VV) | ref (n : Nat) | ftp (xs : List VV)
/-- an object that is kept: a list, a dict, an instance of the class at C -/
inductive VO where
  | lst (xs : List VV) | dic (ks : List Key) (vs : List VV) | dtu (ks : List (List Key)) (vs : List VV) | ins (C : Addr) (fs : List Str) (vs : List VV) | exc (C : Addr) (fs : List Str) (vs : List VV) | fdt (ob : Obj) (kvs : List (List Key × V)) (vs : List VV)
abbrev VH := List VO
/-- what an expression gives: a value, or a new object that stands nowhere yet -/
inductive R where
  | val (v : VV) | new (o : VO)

/-- a list that is read alone: locked, or of the written part -/
def SqR (K : PySem.W.Frag) (H : Hp) (a : Addr) (ys : List V) : Prop := (∃ ob, H a = some (.frz ob (.lst ys))) ∨ SqL K (fun _ => none) a ys
theorem SqR.sq {K : PySem.W.Frag} {H : Hp} {a : Addr} {ys : List V} (s : SqR K H a ys) : SqL K H a ys := by
  rcases s with ⟨ob, s⟩ | (s | ⟨ob, s⟩) | s
  · exact .inl (.inr ⟨ob, s⟩)
  · cases s
  · cases s
  · exact .inr s
/-- a tuple that the program made, with no dict of its own -/
def FtT (H : Hp) (a : Addr) (ys : List V) : Prop := ∃ ob, H a = some (.frz ob (.tup ys)) ∧ ob.dict = none
inductive RelT (K : PySem.W.Frag) (m : List Addr) (H : Hp) : VV → V → Prop where
  | non : RelT K m H .non .non
  | bl {b : Bool} : RelT K m H (.bl b) (.bl b)
  | int {i : Int} : RelT K m H (.int i) (.int i)
  | str {x : Str} : RelT K m H (.str x) (.str x)
  | tup {xs : List VV} {ys : List V} {a : Addr} : H a = some (.tup ys) → xs.length = ys.length → (∀ (i : Nat) (x : VV) (y : V), xs[i]? = some x → ys[i]? = some y → RelT K m H x y) → RelT K m H (.tup xs) (.ref a)
  | rol {xs : List VV} {ys : List V} {a : Addr} : SqR K H a ys → xs.length = ys.length → (∀ (i : Nat) (x : VV) (y : V), xs[i]? = some x → ys[i]? = some y → RelT K m H x y) → RelT K m H (.rol xs) (.ref a)
  | ref {n : Nat} {a : Addr} : m[n]? = some a → RelT K m H (.ref n) (.ref a)
  | ftp {xs : List VV} {ys : List V} {a : Addr} : FtT H a ys → xs.length = ys.length → (∀ (i : Nat) (x : VV) (y : V), xs[i]? = some x → ys[i]? = some y → RelT K m H x y) → RelT K m H (.ftp xs) (.ref a)
structure Rels (K : PySem.W.Frag) (m : List Addr) (H : Hp) (xs : List VV) (ys : List V) : Prop where
  len : xs.length = ys.length
  at_ : ∀ (i : Nat) (x : VV) (y : V), xs[i]? = some x → ys[i]? = some y → RelT K m H x y
/-- at a: an exception of the class at C whose dict stands at d -/
def exq (a C d : Addr) : HO := .ext fun h => ∃ (oe : Obj) (vs : Array Value), h.get? a = some oe ∧ Zc (.ref C) (some d) oe ∧ oe.data = .fields vs
def RelO (K : PySem.W.Frag) (m : List Addr) (H : Hp) (a : Addr) : VO → Prop
  | .lst xs => ∃ ys, H a = some (.lst ys) ∧ Rels K m H xs ys
  | .dic ks vs => ∃ kvs : List (Key × V), H a = some (.dK kvs) ∧ kvs.map Prod.fst = ks ∧ Rels K m H vs (kvs.map Prod.snd)
  | .dtu ks vs => ∃ kvs : List (List Key × V), H a = some (.dT kvs) ∧ kvs.map Prod.fst = ks ∧ Rels K m H vs (kvs.map Prod.snd)
  | .ins C fs vs => ∃ (dx : Addr) (ys : List (Str × V)), H a = some (.ins C dx ys) ∧ ys.map Prod.fst = fs.take vs.length ∧ Rels K m H vs (ys.map Prod.snd)
  | .exc C fs vs => ∃ (dx : Addr) (ys : List (Str × V)), H a = some (exq a C dx) ∧ H dx = some (.xd ys) ∧ dx ∉ m ∧ ys.map Prod.fst = fs ∧ Rels K m H vs (ys.map Prod.snd)
  | .fdt ob kvs vs => H a = some (.frz ob (.dT kvs)) ∧ Rels K m H vs (kvs.map Prod.snd)
structure RH (K : PySem.W.Frag) (m : List Addr) (h : VH) (H : Hp) : Prop where
  nd : m.Nodup
  len : m.length = h.length
  obj : ∀ (n : Nat) (o : VO) (a : Addr), h[n]? = some o → m[n]? = some a → RelO K m H a o
/-- from one state to a later one -/
structure Ev (K : PySem.W.Frag) (m m' : List Addr) (H H' : Hp) : Prop where
  pre : ∀ (n : Nat) (a : Addr), m[n]? = some a → m'[n]? = some a
  tk : ∀ (a : Addr) (ys : List V), H a = some (.tup ys) → H' a = some (.tup ys)
  sk : ∀ (a : Addr) (ys : List V), SqR K H a ys → SqR K H' a ys
  ft : ∀ (a : Addr) (ys : List V), FtT H a ys → FtT H' a ys
  fr : ∀ (a : Addr) (o : HO), H a = some o → a ∉ m → H' a = some o
  new : ∀ (a : Addr), a ∈ m' → a ∈ m ∨ H a = none
def RelR (K : PySem.W.Frag) (m : List Addr) (H : Hp) : R → V → Prop
  | .val v, x => RelT K m H v x
  | .new o, x => ∃ a, x = .ref a ∧ a ∉ m ∧ RelO K m H a o
abbrev Env := List (Option VV)
structure RE (K : PySem.W.Frag) (m : List Addr) (H : Hp) (ρ : Env) (σ : St) : Prop where
  len : ρ.length = σ.length
  at_ : ∀ (i : Nat) (v : VV), ρ[i]? = some (some v) → ∃ x, σ[i]? = some (some x) ∧ RelT K m H v x

section
variable {K : PySem.W.Frag} {m m' m2 : List Addr} {H H' H2 : Hp} {ρ : Env} {σ : St} {h : VH}
theorem Ev.refl : Ev K m m H H := ⟨fun _ _ e => e, fun _ _ e => e, fun _ _ e => e, fun _ _ e => e, fun _ _ e _ => e, fun _ e => .inl e⟩
theorem Ev.trans (a : Ev K m m' H H') (b : Ev K m' m2 H' H2) : Ev K m m2 H H2 where
  pre := fun n x e => b.pre n x (a.pre n x e)
  tk := fun x ys e => b.tk x ys (a.tk x ys e)
  sk := fun x ys e => b.sk x ys (a.sk x ys e)
  ft := fun x ys e => b.ft x ys (a.ft x ys e)
  fr := fun x o e n => b.fr x o (a.fr x o e n) fun q => by
    rcases a.new x q with z | z
    · exact n z
    · rw [z] at e; cases e
  new := fun x e => by
    rcases b.new x e with z | z
    · exact a.new x z
    · by_cases q : x ∈ m
      · exact .inl q
      · right
        cases r : H x with
        | none => rfl
        | some o => rw [a.fr x o r q] at z; cases z
theorem RelT.mono (e : Ev K m m' H H') {v : VV} {x : V} (r : RelT K m H v x) : RelT K m' H' v x := by
  induction r with
  | non => exact .non
  | bl => exact .bl
  | int => exact .int
  | str => exact .str
  | tup s l _ ih => exact .tup (e.tk _ _ s) l ih
  | rol s l _ ih => exact .rol (e.sk _ _ s) l ih
  | ref q => exact .ref (e.pre _ _ q)
  | ftp s l _ ih => exact .ftp (e.ft _ _ s) l ih
theorem Rels.mono (e : Ev K m m' H H') {xs : List VV} {ys : List V} (r : Rels K m H xs ys) : Rels K m' H' xs ys := ⟨r.len, fun i x y a b => (r.at_ i x y a b).mono e⟩
theorem RE.mono (e : Ev K m m' H H') (r : RE K m H ρ σ) : RE K m' H' ρ σ := ⟨r.len, fun i v q => let ⟨x, a, b⟩ := r.at_ i v q; ⟨x, a, b.mono e⟩⟩
/-- an object outside the kept ones stays -/
theorem RelO.there {a : Addr} {o : VO} (r : RelO K m H a o) : ∃ u : HO, H a = some u ∧ (∀ zs, u ≠ .tup zs) ∧ (∀ ob w, u = .frz ob w → ∃ kvs, w = .dT kvs) := by
  cases o with
  | lst xs => obtain ⟨ys, p, q⟩ := r; exact ⟨_, p, ⟨fun _ z => (nomatch z), fun _ _ z => (nomatch z)⟩⟩
  | dic ks vs => obtain ⟨kvs, p, p2, q⟩ := r; exact ⟨_, p, ⟨fun _ z => (nomatch z), fun _ _ z => (nomatch z)⟩⟩
  | dtu ks vs => obtain ⟨kvs, p, p2, q⟩ := r; exact ⟨_, p, ⟨fun _ z => (nomatch z), fun _ _ z => (nomatch z)⟩⟩
  | ins C fs vs => obtain ⟨dx, ys, p, p2, q⟩ := r; exact ⟨_, p, ⟨fun _ z => (nomatch z), fun _ _ z => (nomatch z)⟩⟩
  | exc C fs vs => obtain ⟨dx, ys, p, p2, q⟩ := r; exact ⟨_, p, ⟨fun _ z => (by unfold exq at z; cases z), fun _ _ z => (by unfold exq at z; cases z)⟩⟩
  | fdt ob kvs vs => obtain ⟨p, q⟩ := r; exact ⟨_, p, ⟨fun _ z => (nomatch z), fun ob' w z => by injection z with _ z; exact ⟨_, z.symm⟩⟩⟩
/-- no object of ours is an exception's dict -/
theorem RelO.noxd {a : Addr} {o : VO} (r : RelO K m H a o) : ∀ ys, H a ≠ some (.xd ys) := by
  intro zs h
  cases o with
  | lst xs => obtain ⟨ys, p, q⟩ := r; rw [h] at p; cases p
  | dic ks vs => obtain ⟨kvs, p, p2, q⟩ := r; rw [h] at p; cases p
  | dtu ks vs => obtain ⟨kvs, p, p2, q⟩ := r; rw [h] at p; cases p
  | ins C fs vs => obtain ⟨dx, ys, p, p2, q⟩ := r; rw [h] at p; cases p
  | exc C fs vs => obtain ⟨dx, ys, p, p2, q⟩ := r; rw [h] at p; unfold exq at p; cases p
  | fdt ob kvs vs => obtain ⟨p, q⟩ := r; rw [h] at p; cases p
theorem RelO.stay (e : Ev K m m' H H') {a : Addr} {o : VO} (hk : ∀ u, H a = some u → H' a = some u) (r : RelO K m H a o) : RelO K m' H' a o := by
  cases o with
  | lst xs => obtain ⟨ys, p, q⟩ := r; exact ⟨ys, hk _ p, q.mono e⟩
  | dic ks vs => obtain ⟨kvs, p, p2, q⟩ := r; exact ⟨kvs, hk _ p, p2, q.mono e⟩
  | dtu ks vs => obtain ⟨kvs, p, p2, q⟩ := r; exact ⟨kvs, hk _ p, p2, q.mono e⟩
  | ins C fs vs => obtain ⟨dx, ys, p, p2, q⟩ := r; exact ⟨dx, ys, hk _ p, p2, q.mono e⟩
  | exc C fs vs =>
    obtain ⟨dx, ys, p, px, nm, p2, q⟩ := r
    refine ⟨dx, ys, hk _ p, e.fr dx _ px nm, fun z => ?_, p2, q.mono e⟩
    rcases e.new dx z with z | z
    · exact nm z
    · rw [z] at px; cases px
  | fdt ob kvs vs => obtain ⟨p, q⟩ := r; exact ⟨hk _ p, q.mono e⟩
theorem RelR.mono (e : Ev K m m' H H') {r : R} {x : V} (q : RelR K m H r x) : RelR K m' H' r x := by
  cases r with
  | val v => exact RelT.mono e q
  | new o =>
    obtain ⟨a, rfl, nm, ro⟩ := q
    obtain ⟨u, hu, _⟩ := RelO.there ro
    refine ⟨a, rfl, fun z => ?_, RelO.stay e (fun u hu => e.fr a u hu nm) ro⟩
    rcases e.new a z with y | y
    · exact nm y
    · rw [y] at hu; cases hu
theorem Rels.nil : Rels K m H [] [] := ⟨rfl, fun i x y a _ => by simp at a⟩
theorem Rels.cons {x : VV} {y : V} {xs : List VV} {ys : List V} (r : RelT K m H x y) (s : Rels K m H xs ys) : Rels K m H (x :: xs) (y :: ys) := ⟨by simp [s.len], fun i a b p q => by
  cases i with
  | zero => simp at p q; subst p q; exact r
  | succ i => simp at p q; exact s.at_ i a b p q⟩
theorem Rels.append {xs xs2 : List VV} {ys ys2 : List V} (r : Rels K m H xs ys) (s : Rels K m H xs2 ys2) : Rels K m H (xs ++ xs2) (ys ++ ys2) := ⟨by simp [r.len, s.len], fun i a b p q => by
  rw [List.getElem?_append] at p q
  rw [← r.len] at q
  split at p
  · rename_i c; rw [if_pos c] at q; exact r.at_ _ _ _ p q
  · rename_i c; rw [if_neg c] at q; exact s.at_ _ _ _ p q⟩
theorem Rels.get {xs : List VV} {ys : List V} (r : Rels K m H xs ys) {i : Nat} {x : VV} (e : xs[i]? = some x) : ∃ y, ys[i]? = some y ∧ RelT K m H x y := by
  have hi := (List.getElem?_eq_some_iff.mp e).1
  rw [r.len] at hi
  exact ⟨ys[i], List.getElem?_eq_getElem hi, r.at_ i x _ e (List.getElem?_eq_getElem hi)⟩
theorem Rels.getV {xs : List VV} {ys : List V} (r : Rels K m H xs ys) {i : Nat} {y : V} (e : ys[i]? = some y) : ∃ x, xs[i]? = some x ∧ RelT K m H x y := by
  have hi := (List.getElem?_eq_some_iff.mp e).1
  rw [← r.len] at hi
  exact ⟨xs[i], List.getElem?_eq_getElem hi, r.at_ i _ y (List.getElem?_eq_getElem hi) e⟩
theorem Rels.set {xs : List VV} {ys : List V} (r : Rels K m H xs ys) {x : VV} {y : V} (q : RelT K m H x y) (j : Nat) : Rels K m H (xs.set j x) (ys.set j y) := ⟨by simp [r.len], fun i a b p s => by
  rw [List.getElem?_set] at p s
  split at p
  · rename_i c; rw [if_pos c] at s
    split at p
    · rename_i d; rw [if_pos (by rw [← r.len]; exact d)] at s; cases p; cases s; exact q
    · cases p
  · rename_i c; rw [if_neg c] at s; exact r.at_ _ _ _ p s⟩
theorem Rels.take {xs : List VV} {ys : List V} (r : Rels K m H xs ys) (n : Nat) : Rels K m H (xs.take n) (ys.take n) := ⟨by simp [r.len], fun i a b p s => by
  rw [List.getElem?_take] at p s
  split at p
  · rename_i c; rw [if_pos c] at s; exact r.at_ _ _ _ p s
  · cases p⟩
theorem Rels.drop {xs : List VV} {ys : List V} (r : Rels K m H xs ys) (n : Nat) : Rels K m H (xs.drop n) (ys.drop n) := ⟨by simp [r.len], fun i a b p s => by
  rw [List.getElem?_drop] at p s; exact r.at_ _ _ _ p s⟩
theorem RelT.int_inv {i : Int} {x : V} (r : RelT K m H (.int i) x) : x = .int i := by cases r; rfl
theorem RelT.bl_inv {i : Bool} {x : V} (r : RelT K m H (.bl i) x) : x = .bl i := by cases r; rfl
theorem RelT.str_inv {i : Str} {x : V} (r : RelT K m H (.str i) x) : x = .str i := by cases r; rfl
theorem RelT.non_inv {x : V} (r : RelT K m H .non x) : x = .non := by cases r; rfl
theorem RelT.tup_inv {xs : List VV} {x : V} (r : RelT K m H (.tup xs) x) : ∃ a ys, x = .ref a ∧ SqT K H a ys ∧ Rels K m H xs ys := by
  cases r with
  | tup s l q => exact ⟨_, _, rfl, .of s, l, q⟩
theorem RelT.tup_raw {xs : List VV} {x : V} (r : RelT K m H (.tup xs) x) : ∃ a ys, x = .ref a ∧ H a = some (.tup ys) ∧ Rels K m H xs ys := by
  cases r with
  | tup s l q => exact ⟨_, _, rfl, s, l, q⟩
theorem RelT.ftp_inv {xs : List VV} {x : V} (r : RelT K m H (.ftp xs) x) : ∃ a ys, x = .ref a ∧ FtT H a ys ∧ Rels K m H xs ys := by
  cases r with
  | ftp s l q => exact ⟨_, _, rfl, s, l, q⟩
theorem FtT.sq {a : Addr} {ys : List V} (s : FtT H a ys) : SqT K H a ys := let ⟨ob, s, _⟩ := s; .inl (.inr ⟨ob, s⟩)
theorem RelT.ref_inv {n : Nat} {x : V} (r : RelT K m H (.ref n) x) : ∃ a, x = .ref a ∧ m[n]? = some a := by
  cases r with
  | ref q => exact ⟨_, rfl, q⟩
theorem Rels.ints : ∀ {ns : List Int} {ys : List V}, Rels K m H (ns.map VV.int) ys → ys = ns.map V.int
  | [], ys, r => by
    have := r.len
    cases ys with
    | nil => rfl
    | cons y ys => simp at this
  | n :: ns, ys, r => by
    cases ys with
    | nil => have := r.len; simp at this
    | cons y ys =>
      have h1 := (r.at_ 0 (.int n) y (by simp) (by simp)).int_inv
      have h2 := Rels.ints (ns := ns) (ys := ys) ⟨by have := r.len; simpa using this, fun i a b p q => r.at_ (i + 1) a b (by simpa using p) (by simpa using q)⟩
      rw [h1, h2]; rfl

theorem RelT.rol_inv {xs : List VV} {x : V} (r : RelT K m H (.rol xs) x) : ∃ a ys, x = .ref a ∧ SqR K H a ys ∧ Rels K m H xs ys := by
  cases r with
  | rol s l q => exact ⟨_, _, rfl, s, l, q⟩

/-! ### a new object, a changed one -/
/-- what may be changed: no tuple, nothing locked -/
def Chg (H : Hp) (p : Addr) : Prop := ∀ u, H p = some u → (∀ zs, u ≠ .tup zs) ∧ (∀ ob w, u = .frz ob w → ∃ kvs, w = .dT kvs)
theorem sqT_upd {a p : Addr} {o : HO} {ys : List V} (hp : Chg H p) (s : SqT K H a ys) : SqT K (upd H p o) a ys := by
  rcases s with (s | ⟨ob, s⟩) | s
  · refine .inl (.inl ?_)
    rw [upd_ne fun e => (hp _ (e ▸ s)).1 _ rfl]; exact s
  · refine .inl (.inr ⟨ob, ?_⟩)
    rw [upd_ne fun e => by obtain ⟨_, z⟩ := (hp _ (e ▸ s)).2 _ _ rfl; cases z]; exact s
  · exact .inr s
theorem tupH_upd {a p : Addr} {o : HO} {ys : List V} (hp : Chg H p) (s : H a = some (.tup ys)) : upd H p o a = some (.tup ys) := by
  rw [upd_ne fun e => (hp _ (e ▸ s)).1 _ rfl]; exact s
theorem sqR_upd {a p : Addr} {o : HO} {ys : List V} (hp : Chg H p) (s : SqR K H a ys) : SqR K (upd H p o) a ys := by
  rcases s with ⟨ob, s⟩ | s
  · exact .inl ⟨ob, by rw [upd_ne fun e => by obtain ⟨_, z⟩ := (hp _ (e ▸ s)).2 _ _ rfl; cases z]; exact s⟩
  · exact .inr s
theorem ftT_upd {a p : Addr} {o : HO} {ys : List V} (hp : Chg H p) (s : FtT H a ys) : FtT (upd H p o) a ys := by
  obtain ⟨ob, s, d⟩ := s
  exact ⟨ob, by rw [upd_ne fun e => by obtain ⟨_, z⟩ := (hp _ (e ▸ s)).2 _ _ rfl; cases z]; exact s, d⟩
theorem Chg.none {p : Addr} (h : H p = .none) : Chg H p := fun u e => by rw [h] at e; cases e
/-- an object laid that isn't kept by number -/
theorem Ev.laid {p : Addr} {o : HO} (hp : H p = .none) : Ev K m m H (upd H p o) where
  pre := fun _ _ e => e
  tk := fun a ys s => tupH_upd (.none hp) s
  sk := fun a ys s => sqR_upd (.none hp) s
  ft := fun a ys s => ftT_upd (.none hp) s
  fr := fun a u e _ => by rw [upd_ne (ne_of_none e hp)]; exact e
  new := fun _ e => .inl e
theorem RH.mem (r : RH K m h H) {a : Addr} (e : a ∈ m) : ∃ (n : Nat) (o : VO), m[n]? = some a ∧ h[n]? = some o := by
  obtain ⟨n, hn⟩ := List.mem_iff_getElem?.mp e
  have hl := (List.getElem?_eq_some_iff.mp hn).1
  rw [r.len] at hl
  exact ⟨n, h[n], hn, List.getElem?_eq_getElem hl⟩
theorem RH.there (r : RH K m h H) {a : Addr} (e : a ∈ m) : ∃ u : HO, H a = some u ∧ (∀ zs, u ≠ .tup zs) ∧ (∀ ob w, u = .frz ob w → ∃ kvs, w = .dT kvs) := by
  obtain ⟨n, o, h1, h2⟩ := r.mem e
  exact RelO.there (r.obj n o a h2 h1)
theorem RH.laid {p : Addr} {o : HO} (r : RH K m h H) (hp : H p = .none) : RH K m h (upd H p o) := ⟨r.nd, r.len, fun n ob a e1 e2 => by
  obtain ⟨u, hu, _⟩ := r.there (List.mem_of_getElem? e2)
  exact RelO.stay (Ev.laid hp) (fun u e => by rw [upd_ne (ne_of_none e hp)]; exact e) (r.obj n ob a e1 e2)⟩
theorem RH.fresh (r : RH K m h H) {p : Addr} (hp : H p = .none) : p ∉ m := fun e => by
  obtain ⟨u, hu, _⟩ := r.there e
  rw [hp] at hu; cases hu
/-- what comes behind an evaluation that began at m, H -/
structure Pst (K : PySem.W.Frag) (m : List Addr) (H : Hp) (m' : List Addr) (H' : Hp) (h' : VH) (r : R) (x : V) : Prop where
  ev : Ev K m m' H H'
  rh : RH K m' h' H'
  rr : RelR K m' H' r x
  fresh : ∀ (o : VO) (a : Addr), r = .new o → x = .ref a → H a = .none
theorem Ev.back (e : Ev K m m' H H') (r : RH K m' h H') {a : Addr} (n : H' a = .none) : H a = .none := by
  cases q : H a with
  | none => rfl
  | some o =>
    by_cases hm : a ∈ m
    · obtain ⟨k, hk⟩ := List.mem_iff_getElem?.mp hm
      exact absurd (List.mem_of_getElem? (e.pre _ _ hk)) (r.fresh n)
    · rw [e.fr a o q hm] at n; cases n
theorem Pst.from_ {h1 : VH} {m3 : List Addr} {H3 : Hp} {h3 : VH} {r : R} {x : V} (e : Ev K m m' H H') (rh : RH K m' h1 H') (p : Pst K m' H' m3 H3 h3 r x) : Pst K m H m3 H3 h3 r x :=
  ⟨e.trans p.ev, p.rh, p.rr, fun o a z1 z2 => e.back rh (p.fresh o a z1 z2)⟩
/-- a value, the state as it was -/
theorem Pst.val {v : VV} {x : V} (rh : RH K m h H) (r : RelT K m H v x) : Pst K m H m H h (.val v) x := ⟨Ev.refl, rh, r, fun _ _ z => nomatch z⟩
/-- a new list -/
theorem Pst.lst {p : Addr} {xs : List VV} {ys : List V} (rh : RH K m h H) (hp : H p = .none) (r : Rels K m H xs ys) : Pst K m H m (upd H p (.lst ys)) h (.new (.lst xs)) (.ref p) :=
  ⟨Ev.laid hp, rh.laid hp, ⟨p, rfl, rh.fresh hp, ys, upd_same, r.mono (Ev.laid hp)⟩, fun _ a _ z => by cases z; exact hp⟩
/-- a new tuple -/
theorem Pst.tup {p : Addr} {xs : List VV} {ys : List V} (rh : RH K m h H) (hp : H p = .none) (r : Rels K m H xs ys) : Pst K m H m (upd H p (.tup ys)) h (.val (.tup xs)) (.ref p) :=
  ⟨Ev.laid hp, rh.laid hp, .tup upd_same r.len (r.mono (Ev.laid hp)).at_, fun _ _ z => nomatch z⟩
end
end VL

set_option autoImplicit false
namespace VL
open PySem L2

abbrev GE := Env → VH → (R → VH → Prop) → Prop
abbrev GT := Env → VH → (Bool → VH → Prop) → Prop
abbrev GA := Env → VH → (List VV → VH → Prop) → Prop
abbrev GO := R → R → VH → (R → VH → Prop) → Prop
/-- what is wanted of an exception: its class, its fields, what they hold, the slots -/
abbrev XV := Addr → List Str → List VV → Env → VH → Prop
structure VEnds where
  nx : Env → VH → Prop
  rt : R → VH → Prop
  bk : Env → VH → Prop := fun _ _ => False
  ct : Env → VH → Prop := fun _ _ => False
  ex : XV := fun _ _ _ _ _ => False
abbrev GS := VEnds → Env → VH → Prop

def RzE (K : PySem.W.Frag) (t : TE) (g : GE) : Prop := ∀ (m : List Addr) (h : VH) (H : Hp) (ρ : Env) (σ : St) (QV : R → VH → Prop) (Q : VK), RH K m h H → RE K m H ρ σ → g ρ h QV →
  (∀ m' H' h' r x, Pst K m H m' H' h' r x → QV r h' → Q x H') → t σ H Q
def RzT (K : PySem.W.Frag) (t : TT) (g : GT) : Prop := ∀ (m : List Addr) (h : VH) (H : Hp) (ρ : Env) (σ : St) (QV : Bool → VH → Prop) (Q : Bool → Hp → Prop), RH K m h H → RE K m H ρ σ → g ρ h QV →
  (∀ m' H' h' b, Ev K m m' H H' → RH K m' h' H' → QV b h' → Q b H') → t σ H Q
def RzA (K : PySem.W.Frag) (t : TA) (g : GA) : Prop := ∀ (m : List Addr) (h : VH) (H : Hp) (ρ : Env) (σ : St) (QV : List VV → VH → Prop) (Q : List V → Hp → Prop), RH K m h H → RE K m H ρ σ → g ρ h QV →
  (∀ m' H' h' vs xs, Ev K m m' H H' → RH K m' h' H' → Rels K m' H' vs xs → QV vs h' → Q xs H') → t σ H Q
def RzO (K : PySem.W.Frag) (t : R2) (g : GO) : Prop := ∀ (m : List Addr) (h : VH) (H : Hp) (x y : V) (rx ry : R) (QV : R → VH → Prop) (Q : VK), RH K m h H → RelR K m H rx x → RelR K m H ry y → g rx ry h QV →
  (∀ m' H' h' r z, Pst K m H m' H' h' r z → QV r h' → Q z H') → t x y H Q
/-- an operation on one value -/
abbrev GU := R → VH → (R → VH → Prop) → Prop
def RzU (K : PySem.W.Frag) (t : V → Hp → VK → Prop) (g : GU) : Prop := ∀ (m : List Addr) (h : VH) (H : Hp) (x : V) (rx : R) (QV : R → VH → Prop) (Q : VK), RH K m h H → RelR K m H rx x → g rx h QV →
  (∀ m' H' h' r z, Pst K m H m' H' h' r z → QV r h' → Q z H') → t x H Q
/-- a call on values -/
abbrev GC := List VV → VH → (R → VH → Prop) → Prop
def RzC (K : PySem.W.Frag) (t : List V → Hp → VK → Prop) (g : GC) : Prop := ∀ (m : List Addr) (h : VH) (H : Hp) (xs : List V) (vs : List VV) (QV : R → VH → Prop) (Q : VK), RH K m h H → Rels K m H vs xs → g vs h QV →
  (∀ m' H' h' r z, Pst K m H m' H' h' r z → QV r h' → Q z H') → t xs H Q
/-- what may leave the context -/
def Wof (X : Cx) : WX := fun cls d σ H => ∀ (u : Value) (s' : Shared), XE X (fun c e ρ G => c = cls ∧ e = d ∧ ρ = σ ∧ G = H) u s' → X.xe u s'
theorem takes_wof {X : Cx} : Takes X (Wof X) := fun u s' ⟨a, B, sI, pins, σ, H, cls, d, eu, I, nb, up, sky, na, os, ag, w⟩ => w u s' ⟨a, B, sI, pins, σ, H, cls, d, eu, I, nb, up, sky, na, os, ag, rfl, rfl, rfl, rfl⟩
theorem wof_of {X : Cx} {W : WX} (tk : Takes X W) {cls : Value} {d : Option Addr} {σ : St} {H : Hp} (w : W cls d σ H) : Wof X cls d σ H := fun u s' ⟨a, B, sI, pins, ρ, G, c, e, eu, I, nb, up, sky, na, os, ag, q1, q2, q3, q4⟩ => by
  subst q1 q2 q3 q4
  exact tk u s' ⟨a, B, sI, pins, ρ, G, c, e, eu, I, nb, up, sky, na, os, ag, w⟩
structure ERel (K : PySem.W.Frag) (W : WX) (m : List Addr) (H : Hp) (D : VEnds) (E : Ends) : Prop where
  nx : ∀ m' H' h' ρ σ, Ev K m m' H H' → RH K m' h' H' → RE K m' H' ρ σ → D.nx ρ h' → E.nx σ H'
  rt : ∀ m' H' h' r x, Pst K m H m' H' h' r x → D.rt r h' → E.rt x H'
  bk : ∀ m' H' h' ρ σ, Ev K m m' H H' → RH K m' h' H' → RE K m' H' ρ σ → D.bk ρ h' → E.bk σ H'
  ct : ∀ m' H' h' ρ σ, Ev K m m' H H' → RH K m' h' H' → RE K m' H' ρ σ → D.ct ρ h' → E.ct σ H'
  ex : ∀ m' H' h' ρ σ C fs vs dx ys, Ev K m m' H H' → RH K m' h' H' → RE K m' H' ρ σ → D.ex C fs vs ρ h' → H' dx = some (.xd ys) → dx ∉ m' → ys.map Prod.fst = fs → Rels K m' H' vs (ys.map Prod.snd) → W (.ref C) (some dx) σ H'
def RzS (K : PySem.W.Frag) (W : WX) (t : TS) (g : GS) : Prop := ∀ (m : List Addr) (h : VH) (H : Hp) (ρ : Env) (σ : St) (D : VEnds) (E : Ends), RH K m h H → RE K m H ρ σ → g D ρ h → ERel K W m H D E → t E σ H

structure MX (X : Cx) (e : Expr) (g : GE) : Prop where
  ex : ∃ t, PE X e t ∧ RzE X.K t g
structure MT (X : Cx) (e : Expr) (g : GT) : Prop where
  ex : ∃ t, PT X e t ∧ RzT X.K t g
structure MW (X : Cx) (e : Expr) (g : GT) : Prop where
  ex : ∃ t, PW X e t ∧ RzT X.K t g
structure MA (X : Cx) (es : List Expr) (g : GA) : Prop where
  ex : ∃ t, PA X es t ∧ RzA X.K t g
structure MS (X : Cx) (s : Stmt) (g : GS) : Prop where
  ex : ∃ t, PS X s t ∧ RzS X.K (Wof X) t g
structure MB (X : Cx) (s : List Stmt) (g : GS) : Prop where
  ex : ∃ t, PSs X s t ∧ RzS X.K (Wof X) t g
/-- an operation of the language, over values -/
structure MO (X : Cx) (f : Value → Value → Sem Value) (g : GO) : Prop where
  ex : ∃ r, OpR X f r ∧ RzO X.K r g
structure MU (X : Cx) (f : Value → Sem Value) (g : GU) : Prop where
  ex : ∃ r, UnR X f r ∧ RzU X.K r g
structure MC (X : Cx) (f : Value) (g : GC) : Prop where
  ex : ∃ r, CallR X f r ∧ RzC X.K r g

section
variable {K : PySem.W.Frag} {m m' : List Addr} {H H' : Hp} {h : VH} {ρ : Env} {σ : St}
/-- what is put somewhere gets a number -/
def put (r : R) (h : VH) (Q : VV → VH → Prop) : Prop := match r with
  | .val v => Q v h
  | .new o => Q (.ref h.length) (h ++ [o])
theorem nodup_snoc {l : List Addr} {a : Addr} (h : l.Nodup) (n : a ∉ l) : (l ++ [a]).Nodup := by
  rw [List.nodup_append]
  exact ⟨h, by simp, fun x hx y hy e => by simp at hy; subst hy; subst e; exact n hx⟩
theorem put_ok {h' : VH} {r : R} {x : V} {QV : VV → VH → Prop} {P : Prop} (p : Pst K m H m' H' h' r x) (q : put r h' QV) (k : ∀ m2 h2 v, Ev K m m2 H H' → RH K m2 h2 H' → RelT K m2 H' v x → (∀ (n : Nat) (a : Addr), m'[n]? = some a → m2[n]? = some a) → QV v h2 → P) : P := by
  cases r with
  | val v => exact k m' h' v p.ev p.rh p.rr (fun _ _ e => e) q
  | new o =>
    obtain ⟨a, rfl, nm, ro⟩ := p.rr
    have hf := p.fresh o a rfl rfl
    have pre : ∀ (n : Nat) (b : Addr), m'[n]? = some b → (m' ++ [a])[n]? = some b := fun n b e => by
      rw [List.getElem?_append_left (List.getElem?_eq_some_iff.mp e).1]; exact e
    have e0 : Ev K m' (m' ++ [a]) H' H' → True := fun _ => trivial
    have rm : ∀ {v : VV} {y : V}, RelT K m' H' v y → RelT K (m' ++ [a]) H' v y := fun r => by
      induction r with
      | non => exact .non
      | bl => exact .bl
      | int => exact .int
      | str => exact .str
      | tup s l _ ih => exact .tup s l ih
      | rol s l _ ih => exact .rol s l ih
      | ref q => exact .ref (pre _ _ q)
      | ftp s l _ ih => exact .ftp s l ih
    have rs : ∀ {vs : List VV} {ys : List V}, Rels K m' H' vs ys → Rels K (m' ++ [a]) H' vs ys := fun r => ⟨r.len, fun i x y a b => rm (r.at_ i x y a b)⟩
    have ro2 : ∀ {b : Addr} {o : VO}, RelO K m' H' b o → RelO K (m' ++ [a]) H' b o := fun {b o} r => by
      cases o with
      | lst xs => obtain ⟨ys, p, q⟩ := r; exact ⟨ys, p, rs q⟩
      | dic ks vs => obtain ⟨kvs, p, p2, q⟩ := r; exact ⟨kvs, p, p2, rs q⟩
      | dtu ks vs => obtain ⟨kvs, p, p2, q⟩ := r; exact ⟨kvs, p, p2, rs q⟩
      | ins C fs vs => obtain ⟨dx, ys, p, p2, q⟩ := r; exact ⟨dx, ys, p, p2, rs q⟩
      | fdt ob kvs vs => obtain ⟨p, q⟩ := r; exact ⟨p, rs q⟩
      | exc C fs vs =>
        obtain ⟨dx, ys, p, px, nx, p2, q⟩ := r
        refine ⟨dx, ys, p, px, fun z => ?_, p2, rs q⟩
        rcases List.mem_append.mp z with z | z
        · exact nx z
        · rw [List.mem_singleton.mp z] at px
          exact ro.noxd _ px
    refine k (m' ++ [a]) (h' ++ [o]) (.ref h'.length) ⟨fun n b e => pre n b (p.ev.pre n b e), p.ev.tk, p.ev.sk, p.ev.ft, p.ev.fr, fun b hb => ?_⟩ ⟨nodup_snoc p.rh.nd nm, by simp [p.rh.len], fun n ob b e1 e2 => ?_⟩ (.ref ?_) pre q
    · rcases List.mem_append.mp hb with z | z
      · exact p.ev.new b z
      · simp at z; subst z; exact .inr hf
    · have hn := (List.getElem?_eq_some_iff.mp e1).1
      by_cases c : n < h'.length
      · rw [List.getElem?_append_left c] at e1
        rw [List.getElem?_append_left (by rw [p.rh.len]; exact c)] at e2
        exact ro2 (p.rh.obj n ob b e1 e2)
      · have en : n = h'.length := by simp at hn; omega
        subst en
        rw [List.getElem?_append_right (Nat.le_refl _)] at e1
        rw [← p.rh.len, List.getElem?_append_right (Nat.le_refl _)] at e2
        simp at e1 e2
        subst e1; subst e2
        exact ro2 ro
    · rw [← p.rh.len, List.getElem?_append_right (Nat.le_refl _)]; simp
theorem RelT.ext (pre : ∀ (n : Nat) (b : Addr), m[n]? = some b → m'[n]? = some b) {v : VV} {y : V} (r : RelT K m H v y) : RelT K m' H v y := by
  induction r with
  | non => exact .non
  | bl => exact .bl
  | int => exact .int
  | str => exact .str
  | tup s l _ ih => exact .tup s l ih
  | rol s l _ ih => exact .rol s l ih
  | ref q => exact .ref (pre _ _ q)
  | ftp s l _ ih => exact .ftp s l ih
theorem Rels.ext (pre : ∀ (n : Nat) (b : Addr), m[n]? = some b → m'[n]? = some b) {v : List VV} {y : List V} (r : Rels K m H v y) : Rels K m' H v y := ⟨r.len, fun i a b p q => (r.at_ i a b p q).ext pre⟩
theorem RE.ext (pre : ∀ (n : Nat) (b : Addr), m[n]? = some b → m'[n]? = some b) (r : RE K m H ρ σ) : RE K m' H ρ σ := ⟨r.len, fun i v q => let ⟨x, a, b⟩ := r.at_ i v q; ⟨x, a, b.ext pre⟩⟩
theorem RE.set {i : Nat} {v : VV} {x : V} (r : RE K m H ρ σ) (q : RelT K m H v x) : RE K m H (ρ.set i (some v)) (σ.set i (some x)) := ⟨by simp [r.len], fun j w e => by
  rw [List.getElem?_set] at e
  split at e
  · rename_i c
    split at e
    · rename_i d
      cases e
      exact ⟨x, by rw [List.getElem?_set, if_pos c, if_pos (by rw [← r.len]; exact d)], q⟩
    · cases e
  · rename_i c
    obtain ⟨y, h1, h2⟩ := r.at_ j w e
    exact ⟨y, by rw [List.getElem?_set, if_neg c]; exact h1, h2⟩⟩
theorem RE.unset {i : Nat} {x : Option V} (r : RE K m H ρ σ) : RE K m H (ρ.set i none) (σ.set i x) := ⟨by simp [r.len], fun j w e => by
  rw [List.getElem?_set] at e
  split at e
  · rename_i c
    split at e
    · cases e
    · cases e
  · rename_i c
    obtain ⟨y, h1, h2⟩ := r.at_ j w e
    exact ⟨y, by rw [List.getElem?_set, if_neg c]; exact h1, h2⟩⟩

/-! ### names, constants -/
def gV (i : Nat) : GE := fun ρ h Q => match ρ[i]? with
  | some (some v) => Q (.val v) h
  | _ => False
def gC (v : VV) : GE := fun _ h Q => Q (.val v) h
theorem rz_var {i : Nat} : RzE K (tVar i) (gV i) := fun m h H ρ σ QV Q rh re hg k => by
  unfold gV at hg
  split at hg
  · rename_i v e
    obtain ⟨x, h1, h2⟩ := re.at_ i v e
    exact ⟨x, h1, k m H h (.val v) x (.val rh h2) hg⟩
  · exact hg.elim
theorem rz_c {v : VV} {x : V} (r : ∀ m H, RelT K m H v x) : RzE K (tC x) (gC v) := fun m h H ρ σ QV Q rh re hg k => k m H h (.val v) x (.val rh (r m H)) hg
variable {X : Cx}
theorem mv (i : Nat) {x : Str} {pos : Pos} (hN : X.N[i]? = some x := by rfl) (hv : Vis X.env.scope x := by first | exact Or.inl rfl | exact Or.inr (Or.inl rfl) | exact Or.inr (Or.inr rfl)) (hd : (x == ("__debug__" : Str)) = false := by decide)
    (hcd : (x == ("__classdict__" : Str)) = false := by decide) : MX X (.Name x pos) (gV i) := ⟨_, pe_var hN hv hd hcd, rz_var⟩
theorem mi {i : Int} {j pos} : MX X (.Constant (.int i) j pos) (gC (.int i)) := ⟨_, pe_int, rz_c fun _ _ => .int⟩
theorem mb {b : Bool} {j pos} : MX X (.Constant (.bool b) j pos) (gC (.bl b)) := ⟨_, pe_bl, rz_c fun _ _ => .bl⟩
theorem mn {j pos} : MX X (.Constant .none j pos) (gC .non) := ⟨_, pe_non, rz_c fun _ _ => .non⟩
theorem ms {x : Str} {j pos} : MX X (.Constant (.str x) j pos) (gC (.str x)) := ⟨_, pe_str, rz_c fun _ _ => .str⟩
/-- a module's whole number -/
theorem mg_ {x : Str} {i : Int} {t : Tok} {pos : Pos} (hm : X.mg x = some (.int i t)) (hg : Gl X x := by rfl) (hd : (x == ("__debug__" : Str)) = false := by decide) : MX X (.Name x pos) (gC (.int i)) :=
  ⟨_, pe_glob (v := .int i) hg hm ⟨t, rfl⟩ hd, rz_c fun _ _ => .int⟩

/-! ### operators -/
variable {a b c : Expr} {ga gb gc : GE} {pos : Pos}
def gB (go : GO) (ga gb : GE) : GE := fun ρ h Q => ga ρ h fun rx h1 => gb ρ h1 fun ry h2 => go rx ry h2 Q
theorem rz_bin {r : R2} {go : GO} {ta tb : TE} (ho : RzO K r go) (ha : RzE K ta ga) (hb : RzE K tb gb) : RzE K (tOp r ta tb) (gB go ga gb) := fun m h H ρ σ QV Q rh re hg k =>
  ha m h H ρ σ _ _ rh re hg fun m1 H1 h1 rx x p1 q1 => hb m1 h1 H1 ρ σ _ _ p1.rh (re.mono p1.ev) q1 fun m2 H2 h2 ry y p2 q2 =>
    ho m2 h2 H2 x y rx ry QV Q p2.rh (p1.rr.mono p2.ev) p2.rr q2 fun m3 H3 h3 r z p3 q3 => k m3 H3 h3 r z ((p3.from_ p2.ev p2.rh).from_ p1.ev p1.rh) q3
theorem mop {op : Operator} {go : GO} (ho : MO X (binaryOp op) go) (ha : MX X a ga) (hb : MX X b gb) : MX X (.BinOp a op b pos) (gB go ga gb) := by
  obtain ⟨r, h1, h2⟩ := ho.ex
  obtain ⟨ta, a1, a2⟩ := ha.ex
  obtain ⟨tb, b1, b2⟩ := hb.ex
  exact ⟨_, pe_op h1 a1 b1, rz_bin h2 a2 b2⟩
theorem mcmp {op : CmpOp} {go : GO} (ho : MO X (compareOp op) go) (ha : MX X a ga) (hb : MX X b gb) (hm : behindInMarks op b = false := by first | exact nomark _ | rfl) : MX X (.Compare a [op] [b] pos) (gB go ga gb) := by
  obtain ⟨r, h1, h2⟩ := ho.ex
  obtain ⟨ta, a1, a2⟩ := ha.ex
  obtain ⟨tb, b1, b2⟩ := hb.ex
  exact ⟨_, pe_cmpR h1 a1 b1 hm, rz_bin h2 a2 b2⟩
def gU (go : GU) (ga : GE) : GE := fun ρ h Q => ga ρ h fun rx h1 => go rx h1 Q
theorem mun {op : UnaryOp} {go : GU} (ho : MU X (unaryOp op) go) (ha : MX X a ga) : MX X (.UnaryOp op a pos) (gU go ga) := by
  obtain ⟨r, h1, h2⟩ := ho.ex
  obtain ⟨ta, a1, a2⟩ := ha.ex
  exact ⟨_, pe_un h1 a1, fun m h H ρ σ QV Q rh re hg k => a2 m h H ρ σ _ _ rh re hg fun m1 H1 h1 rx x p1 q1 => h2 m1 h1 H1 x rx QV Q p1.rh p1.rr q1 fun m2 H2 h2 r z p2 q2 => k m2 H2 h2 r z (p2.from_ p1.ev p1.rh) q2⟩
theorem mix {go : GO} (ho : ∃ r, IxR X r ∧ RzO X.K r go) (ha : MX X a ga) (hb : MX X b gb) (hp : PlainIx b := by exact fun _ _ => rfl) : MX X (.Subscript a b pos) (gB go ga gb) := by
  obtain ⟨r, h1, h2⟩ := ho
  obtain ⟨ta, a1, a2⟩ := ha.ex
  obtain ⟨tb, b1, b2⟩ := hb.ex
  exact ⟨_, pe_ix h1 a1 b1 hp, rz_bin h2 a2 b2⟩

/-! ### tests -/
def gVal (ga : GE) : GT := fun ρ h Q => ga ρ h fun r h1 => match r with
  | .val (.bl b) => Q b h1
  | _ => False
theorem rz_val {t : TE} (ha : RzE K t ga) : RzT K (tB t) (gVal ga) := fun m h H ρ σ QV Q rh re hg k => ha m h H ρ σ _ _ rh re hg fun m1 H1 h1 r x p q => by
  split at q
  · rename_i b
    exact ⟨b, (RelT.bl_inv p.rr), k m1 H1 h1 b p.ev p.rh q⟩
  · exact q.elim
theorem mtv (ha : MX X a ga) (he : ∀ whole, isTrue a X.env whole = (do let v ← whole; standAt a.pos; holding [v] (truthy v)) := by intro _; rfl) : MT X a (gVal ga) := by
  obtain ⟨ta, a1, a2⟩ := ha.ex
  exact ⟨_, pt_val a1 he, rz_val a2⟩
def gNot (t : GT) : GT := fun ρ h Q => t ρ h fun b h1 => Q (!b) h1
def gAnd (t u : GT) : GT := fun ρ h Q => t ρ h fun b h1 => if b = true then u ρ h1 Q else Q false h1
def gOr (t u : GT) : GT := fun ρ h Q => t ρ h fun b h1 => if b = true then Q true h1 else u ρ h1 Q
theorem mtcmp {op : CmpOp} {go : GO} (ho : MO X (compareOp op) go) (ha : MX X a ga) (hb : MX X b gb) (hm : behindInMarks op b = false := by first | exact nomark _ | rfl) : MT X (.Compare a [op] [b] pos) (gVal (gB go ga gb)) := by
  obtain ⟨r, h1, h2⟩ := ho.ex
  obtain ⟨ta, a1, a2⟩ := ha.ex
  obtain ⟨tb, b1, b2⟩ := hb.ex
  exact ⟨_, pt_cmpR h1 a1 b1 hm, rz_val (rz_bin h2 a2 b2)⟩
variable {gt gu : GT}
theorem mtnot (ha : MT X a gt) : MT X (.UnaryOp .Not a pos) (gNot gt) := by
  obtain ⟨t, a1, a2⟩ := ha.ex
  exact ⟨_, pt_not a1, fun m h H ρ σ QV Q rh re hg k => a2 m h H ρ σ _ _ rh re hg fun m1 H1 h1 b e1 r1 q => k m1 H1 h1 (!b) e1 r1 q⟩
theorem rz_and {t u : TT} (ha : RzT K t gt) (hb : RzT K u gu) : RzT K (tAnd t u) (gAnd gt gu) := fun m h H ρ σ QV Q rh re hg k => ha m h H ρ σ _ _ rh re hg fun m1 H1 h1 b e1 r1 q => by
  cases b with
  | true => exact hb m1 h1 H1 ρ σ QV Q r1 (re.mono e1) q fun m2 H2 h2 b e2 r2 q => k m2 H2 h2 b (e1.trans e2) r2 q
  | false => exact k m1 H1 h1 false e1 r1 q
theorem rz_or {t u : TT} (ha : RzT K t gt) (hb : RzT K u gu) : RzT K (tOr t u) (gOr gt gu) := fun m h H ρ σ QV Q rh re hg k => ha m h H ρ σ _ _ rh re hg fun m1 H1 h1 b e1 r1 q => by
  cases b with
  | false => exact hb m1 h1 H1 ρ σ QV Q r1 (re.mono e1) q fun m2 H2 h2 b e2 r2 q => k m2 H2 h2 b (e1.trans e2) r2 q
  | true => exact k m1 H1 h1 true e1 r1 q
variable {rest : List Expr}
theorem mwand (ha : MT X a gt) (hb : MW X (.BoolOp .And (b :: rest) pos) gu) : MW X (.BoolOp .And (a :: b :: rest) pos) (gAnd gt gu) := by
  obtain ⟨t, a1, a2⟩ := ha.ex
  obtain ⟨u, b1, b2⟩ := hb.ex
  exact ⟨_, pw_and a1 b1, rz_and a2 b2⟩
theorem mwand1 (ha : MT X a gt) : MW X (.BoolOp .And [a] pos) gt := by
  obtain ⟨t, a1, a2⟩ := ha.ex
  exact ⟨_, pw_and1 a1, a2⟩
theorem mwor (ha : MT X a gt) (hb : MW X (.BoolOp .Or (b :: rest) pos) gu) : MW X (.BoolOp .Or (a :: b :: rest) pos) (gOr gt gu) := by
  obtain ⟨t, a1, a2⟩ := ha.ex
  obtain ⟨u, b1, b2⟩ := hb.ex
  exact ⟨_, pw_or a1 b1, rz_or a2 b2⟩
theorem mwor1 (ha : MT X a gt) : MW X (.BoolOp .Or [a] pos) gt := by
  obtain ⟨t, a1, a2⟩ := ha.ex
  exact ⟨_, pw_or1 a1, a2⟩
theorem mtw (ha : MW X a gt) : MT X a gt := by
  obtain ⟨t, a1, a2⟩ := ha.ex
  exact ⟨_, a1.pt, a2⟩
def gIf (t : GT) (ga gb : GE) : GE := fun ρ h Q => t ρ h fun b h1 => if b = true then ga ρ h1 Q else gb ρ h1 Q
theorem mife (hc : MT X c gt) (ha : MX X a ga) (hb : MX X b gb) : MX X (.IfExp c a b pos) (gIf gt ga gb) := by
  obtain ⟨t, c1, c2⟩ := hc.ex
  obtain ⟨ta, a1, a2⟩ := ha.ex
  obtain ⟨tb, b1, b2⟩ := hb.ex
  refine ⟨_, pe_ifExp c1 a1 b1, fun m h H ρ σ QV Q rh re hg k => c2 m h H ρ σ _ _ rh re hg fun m1 H1 h1 b e1 r1 q => ?_⟩
  cases b with
  | true => exact a2 m1 h1 H1 ρ σ QV Q r1 (re.mono e1) q fun m2 H2 h2 r x p q => k m2 H2 h2 r x (p.from_ e1 r1) q
  | false => exact b2 m1 h1 H1 ρ σ QV Q r1 (re.mono e1) q fun m2 H2 h2 r x p q => k m2 H2 h2 r x (p.from_ e1 r1) q
/-- and, or, not as values of truths -/
def gAndV (ga gb : GE) : GE := fun ρ h Q => ga ρ h fun r h1 => match r with
  | .val (.bl b) => if b = true then gb ρ h1 Q else Q (.val (.bl false)) h1
  | _ => False
def gOrV (ga gb : GE) : GE := fun ρ h Q => ga ρ h fun r h1 => match r with
  | .val (.bl b) => if b = true then Q (.val (.bl true)) h1 else gb ρ h1 Q
  | _ => False
def gNotV (ga : GE) : GE := fun ρ h Q => ga ρ h fun r h1 => match r with
  | .val (.bl b) => Q (.val (.bl (!b))) h1
  | _ => False
theorem mand (ha : MX X a ga) (hb : MX X (.BoolOp .And (b :: rest) pos) gb) : MX X (.BoolOp .And (a :: b :: rest) pos) (gAndV ga gb) := by
  obtain ⟨ta, a1, a2⟩ := ha.ex
  obtain ⟨tb, b1, b2⟩ := hb.ex
  refine ⟨_, pe_and a1 b1, fun m h H ρ σ QV Q rh re hg k => a2 m h H ρ σ _ _ rh re hg fun m1 H1 h1 r x p q => ?_⟩
  split at q
  · rename_i d
    refine ⟨d, RelT.bl_inv p.rr, ?_⟩
    cases d with
    | true => exact b2 m1 h1 H1 ρ σ QV Q p.rh (re.mono p.ev) q fun m2 H2 h2 r x p2 q => k m2 H2 h2 r x (p2.from_ p.ev p.rh) q
    | false => exact k m1 H1 h1 _ _ ((Pst.val p.rh .bl).from_ p.ev p.rh) q
  · exact q.elim
theorem mor (ha : MX X a ga) (hb : MX X (.BoolOp .Or (b :: rest) pos) gb) : MX X (.BoolOp .Or (a :: b :: rest) pos) (gOrV ga gb) := by
  obtain ⟨ta, a1, a2⟩ := ha.ex
  obtain ⟨tb, b1, b2⟩ := hb.ex
  refine ⟨_, pe_or a1 b1, fun m h H ρ σ QV Q rh re hg k => a2 m h H ρ σ _ _ rh re hg fun m1 H1 h1 r x p q => ?_⟩
  split at q
  · rename_i d
    refine ⟨d, RelT.bl_inv p.rr, ?_⟩
    cases d with
    | false => exact b2 m1 h1 H1 ρ σ QV Q p.rh (re.mono p.ev) q fun m2 H2 h2 r x p2 q => k m2 H2 h2 r x (p2.from_ p.ev p.rh) q
    | true => exact k m1 H1 h1 _ _ ((Pst.val p.rh .bl).from_ p.ev p.rh) q
  · exact q.elim
theorem mone {op : BoolOp} (ha : MX X a ga) : MX X (.BoolOp op [a] pos) ga := by
  obtain ⟨ta, a1, a2⟩ := ha.ex
  exact ⟨_, pe_one a1, a2⟩
theorem mnot (ha : MX X a ga) : MX X (.UnaryOp .Not a pos) (gNotV ga) := by
  obtain ⟨ta, a1, a2⟩ := ha.ex
  refine ⟨_, pe_not a1, fun m h H ρ σ QV Q rh re hg k => a2 m h H ρ σ _ _ rh re hg fun m1 H1 h1 r x p q => ?_⟩
  split at q
  · rename_i d
    exact ⟨d, RelT.bl_inv p.rr, k m1 H1 h1 _ _ ((Pst.val p.rh .bl).from_ p.ev p.rh) q⟩
  · exact q.elim
/-- a < b < c -/
def gCh (go gp : GO) (ga gb gc : GE) : GE := fun ρ h Q => ga ρ h fun rx h1 => gb ρ h1 fun ry h2 => go rx ry h2 fun r h3 => match r with
  | .val (.bl b) => if b = true then gc ρ h3 fun rz h4 => gp ry rz h4 Q else Q (.val (.bl false)) h3
  | _ => False
theorem rz_chain_in {r r' : R2} {go gp : GO} {tc : TE} {m m1 m2 : List Addr} {h h1 h2 : VH} {H H1 H2 : Hp} {rx ry : R} {x y : V} {QV : R → VH → Prop} {Q : VK} (ho : RzO K r go) (hp : RzO K r' gp) (hc : RzE K tc gc) (rh : RH K m h H) (re : RE K m H ρ σ)
    (p1 : Pst K m H m1 H1 h1 rx x) (p2 : Pst K m1 H1 m2 H2 h2 ry y)
    (q2 : go rx ry h2 fun r h3 => match r with | .val (.bl b) => if b = true then gc ρ h3 fun rz h4 => gp ry rz h4 QV else QV (.val (.bl false)) h3 | _ => False)
    (k : ∀ m' H' h' r x, Pst K m H m' H' h' r x → QV r h' → Q x H') : r x y H2 fun z H3 => ∃ k, z = .bl k ∧ (if k = true then tc σ H3 fun w' H4 => r' y w' H4 Q else Q (.bl false) H3) := by
  refine ho m2 h2 H2 x y rx ry _ _ p2.rh (p1.rr.mono p2.ev) p2.rr q2 fun m3 H3 h3 r z p3 q3 => ?_
  have p30 := (p3.from_ p2.ev p2.rh).from_ p1.ev p1.rh
  split at q3
  · rename_i b
    refine ⟨b, RelT.bl_inv p3.rr, ?_⟩
    cases b with
    | true =>
      refine hc m3 h3 H3 ρ σ _ _ p3.rh (re.mono p30.ev) q3 fun m4 H4 h4 rz z p4 q4 => ?_
      exact hp m4 h4 H4 y z ry rz QV Q p4.rh (p2.rr.mono (p3.ev.trans p4.ev)) p4.rr q4 fun m5 H5 h5 r z p5 q5 => k m5 H5 h5 r z ((p5.from_ p4.ev p4.rh).from_ p30.ev p30.rh) q5
    | false => exact k m3 H3 h3 _ _ ((Pst.val p3.rh .bl).from_ p30.ev p30.rh) q3
  · exact q3.elim
theorem rz_chain {r r' : R2} {go gp : GO} {ta tb tc : TE} (ho : RzO K r go) (hp : RzO K r' gp) (ha : RzE K ta ga) (hb : RzE K tb gb) (hc : RzE K tc gc) : RzE K (tChain r r' ta tb tc) (gCh go gp ga gb gc) := fun m h H ρ σ QV Q rh re hg k =>
  ha m h H ρ σ _ _ rh re hg fun m1 H1 h1 rx x p1 q1 => hb m1 h1 H1 ρ σ _ _ p1.rh (re.mono p1.ev) q1 fun m2 H2 h2 ry y p2 q2 =>
    rz_chain_in ho hp hc rh re p1 p2 q2 k
theorem mch {op op' : CmpOp} {go gp : GO} (ho : MO X (compareOp op) go) (hp : MO X (compareOp op') gp) (ha : MX X a ga) (hb : MX X b gb) (hc : MX X c gc) (hm : lastMarks [op, op'] [b, c] = false := by with_unfolding_all rfl) :
    MX X (.Compare a [op, op'] [b, c] pos) (gCh go gp ga gb gc) := by
  obtain ⟨r, o1, o2⟩ := ho.ex
  obtain ⟨r', p1, p2⟩ := hp.ex
  obtain ⟨ta, a1, a2⟩ := ha.ex
  obtain ⟨tb, b1, b2⟩ := hb.ex
  obtain ⟨tc, c1, c2⟩ := hc.ex
  exact ⟨_, pe_chain o1 p1 a1 b1 c1 hm, rz_chain o2 p2 a2 b2 c2⟩
theorem mtch {op op' : CmpOp} {go gp : GO} (ho : MO X (compareOp op) go) (hp : MO X (compareOp op') gp) (ha : MX X a ga) (hb : MX X b gb) (hc : MX X c gc) (hm : lastMarks [op, op'] [b, c] = false := by with_unfolding_all rfl) :
    MT X (.Compare a [op, op'] [b, c] pos) (gVal (gCh go gp ga gb gc)) := by
  obtain ⟨r, o1, o2⟩ := ho.ex
  obtain ⟨r', p1, p2⟩ := hp.ex
  obtain ⟨ta, a1, a2⟩ := ha.ex
  obtain ⟨tb, b1, b2⟩ := hb.ex
  obtain ⟨tc, c1, c2⟩ := hc.ex
  exact ⟨_, pt_chain o1 p1 a1 b1 c1 hm, rz_val (rz_chain o2 p2 a2 b2 c2)⟩

/-! ### arguments, displays -/
variable {es : List Expr} {gr : GA}
def gNil : GA := fun _ h Q => Q [] h
def gCons (ga : GE) (gr : GA) : GA := fun ρ h Q => ga ρ h fun r h1 => put r h1 fun v h2 => gr ρ h2 fun vs h3 => Q (v :: vs) h3
theorem manil : MA X [] gNil := ⟨_, pa_nil, fun m h H ρ σ QV Q rh re hg k => k m H h [] [] Ev.refl rh .nil hg⟩
theorem macons (ha : MX X a ga) (hr : MA X es gr) (hs : starEach (a :: es) X.env = (false, eval a X.env) :: starEach es X.env := by rfl) : MA X (a :: es) (gCons ga gr) := by
  obtain ⟨ta, a1, a2⟩ := ha.ex
  obtain ⟨tr, b1, b2⟩ := hr.ex
  refine ⟨_, pa_cons a1 b1 hs, fun m h H ρ σ QV Q rh re hg k => a2 m h H ρ σ _ _ rh re hg fun m1 H1 h1 r x p q => ?_⟩
  refine put_ok p q fun m2 h2 v e2 r2 t2 pre q2 => ?_
  refine b2 m2 h2 H1 ρ σ _ _ r2 (re.mono e2) q2 fun m3 H3 h3 vs xs e3 r3 t3 q3 => ?_
  exact k m3 H3 h3 _ _ (e2.trans e3) r3 (.cons (t2.mono e3) t3) q3
def gTup (ga : GA) : GE := fun ρ h Q => ga ρ h fun vs h1 => vs.length ≤ sizeLine ∧ Q (.val (.tup vs)) h1
def gLst (ga : GA) : GE := fun ρ h Q => ga ρ h fun vs h1 => vs.length ≤ sizeLine ∧ Q (.new (.lst vs)) h1
theorem mtup {x1} (ha : MA X es gr) : MX X (.Tuple es x1 pos) (gTup gr) := by
  obtain ⟨t, a1, a2⟩ := ha.ex
  refine ⟨_, pe_tup a1, fun m h H ρ σ QV Q rh re hg k => a2 m h H ρ σ _ _ rh re hg fun m1 H1 h1 vs xs e1 r1 t1 q => ?_⟩
  exact ⟨by rw [← t1.len]; exact q.1, fun p hp => k m1 _ h1 _ _ ((Pst.tup r1 hp t1).from_ e1 r1) q.2⟩
theorem mlst (ha : MA X es gr) : MX X (.List es pos) (gLst gr) := by
  obtain ⟨t, a1, a2⟩ := ha.ex
  refine ⟨_, pe_lst a1, fun m h H ρ σ QV Q rh re hg k => a2 m h H ρ σ _ _ rh re hg fun m1 H1 h1 vs xs e1 r1 t1 q => ?_⟩
  exact ⟨by rw [← t1.len]; exact q.1, fun p hp => k m1 _ h1 _ _ ((Pst.lst r1 hp t1).from_ e1 r1) q.2⟩

/-! ### calls -/
def gCall (S : GC) (ga : GA) : GE := fun ρ h Q => ga ρ h fun vs h1 => S vs h1 Q
theorem rz_call {r : List V → Hp → VK → Prop} {S : GC} {t : TA} (hs : RzC K r S) (ha : RzA K t gr) : RzE K (fun σ H Q => t σ H fun vs H1 => r vs H1 Q) (gCall S gr) := fun m h H ρ σ QV Q rh re hg k =>
  ha m h H ρ σ _ _ rh re hg fun m1 H1 h1 vs xs e1 r1 t1 q => hs m1 h1 H1 xs vs QV Q r1 t1 q fun m2 H2 h2 r z p q => k m2 H2 h2 r z (p.from_ e1 r1) q
theorem mcb {x : Str} {p : Pos} {id : String} {S : GC} (hc : MC X (.builtin id) S) (hm : X.mg x = none) (hv : bootBuiltins x = some (.builtin id)) (ha : MA X (a :: es) gr) (hg : Gl X x := by rfl) (hn : x ≠ "__name__" := by decide) (hdb : (x == ("__debug__" : Str)) = false := by decide)
    (hs : starEach (a :: es) X.env = (false, eval a X.env) :: starEach es X.env := by rfl) (hs2 : (backTo pos (starEach es X.env)).any (·.1) = false := by rfl) : MX X (.Call (.Name x p) (a :: es) [] pos) (gCall S gr) := by
  obtain ⟨r, c1, c2⟩ := hc.ex
  obtain ⟨t, a1, a2⟩ := ha.ex
  exact ⟨_, pe_callB c1 hg hm hv a1 hn hdb hs hs2, rz_call c2 a2⟩
theorem mct {x : Str} {p : Pos} {T : String} {S : GC} (hc : MC X (.type T) S) (hm : X.mg x = none) (hv : bootBuiltins x = some (.type T)) (ha : MA X (a :: es) gr) (hg : Gl X x := by rfl) (hn : x ≠ "__name__" := by decide) (hdb : (x == ("__debug__" : Str)) = false := by decide)
    (hs : starEach (a :: es) X.env = (false, eval a X.env) :: starEach es X.env := by rfl) (hs2 : (backTo pos (starEach es X.env)).any (·.1) = false := by rfl) : MX X (.Call (.Name x p) (a :: es) [] pos) (gCall S gr) := by
  obtain ⟨r, c1, c2⟩ := hc.ex
  obtain ⟨t, a1, a2⟩ := ha.ex
  exact ⟨_, pe_callTy c1 hg hm hv a1 hn hdb hs hs2, rz_call c2 a2⟩
/-- a call of one argument whose new object need not be put anywhere -/
def gCall1 (S : GU) (ga : GE) : GE := fun ρ h Q => ga ρ h fun r h1 => S r h1 Q
structure MC1 (X : Cx) (f : Value) (g : GU) : Prop where
  ex : ∃ r, CallR X f r ∧ RzU X.K (fun x H Q => r [x] H Q) g
theorem rz_call1 {r : List V → Hp → VK → Prop} {S : GU} {ta : TE} (hs : RzU K (fun x H Q => r [x] H Q) S) (ha : RzE K ta ga) : RzE K (tCB r (tCons ta tNil)) (gCall1 S ga) := fun m h H ρ σ QV Q rh re hg k =>
  ha m h H ρ σ _ _ rh re hg fun m1 H1 h1 rx x p1 q => hs m1 h1 H1 x rx QV Q p1.rh p1.rr q fun m2 H2 h2 r z p q => k m2 H2 h2 r z (p.from_ p1.ev p1.rh) q
theorem mcb1 {x : Str} {p : Pos} {id : String} {S : GU} (hc : MC1 X (.builtin id) S) (hm : X.mg x = none) (hv : bootBuiltins x = some (.builtin id)) (ha : MX X a ga) (hg : Gl X x := by rfl) (hn : x ≠ "__name__" := by decide) (hdb : (x == ("__debug__" : Str)) = false := by decide)
    (hs : starEach [a] X.env = [(false, eval a X.env)] := by rfl) : MX X (.Call (.Name x p) [a] [] pos) (gCall1 S ga) := by
  obtain ⟨r, c1, c2⟩ := hc.ex
  obtain ⟨t, a1, a2⟩ := ha.ex
  exact ⟨_, pe_callB c1 hg hm hv (pa_cons a1 pa_nil hs) hn hdb hs rfl, rz_call1 c2 a2⟩
theorem mct1 {x : Str} {p : Pos} {T : String} {S : GU} (hc : MC1 X (.type T) S) (hm : X.mg x = none) (hv : bootBuiltins x = some (.type T)) (ha : MX X a ga) (hg : Gl X x := by rfl) (hn : x ≠ "__name__" := by decide) (hdb : (x == ("__debug__" : Str)) = false := by decide)
    (hs : starEach [a] X.env = [(false, eval a X.env)] := by rfl) : MX X (.Call (.Name x p) [a] [] pos) (gCall1 S ga) := by
  obtain ⟨r, c1, c2⟩ := hc.ex
  obtain ⟨t, a1, a2⟩ := ha.ex
  exact ⟨_, pe_callTy c1 hg hm hv (pa_cons a1 pa_nil hs) hn hdb hs rfl, rz_call1 c2 a2⟩
/-- the promise of a def of the text -/
def spOf (K : PySem.W.Frag) (n : Nat) (S : GC) : Sp := fun vs H Q _ => ∃ (m : List Addr) (h : VH) (as : List VV) (QV : R → VH → Prop), RH K m h H ∧ Rels K m H as vs ∧ as.length = n ∧ S as h QV ∧
  ∀ m' H' h' r x, Pst K m H m' H' h' r x → QV r h' → Q x H'
/-- a call of a def of the text -/
def gCallD (n : Nat) (S : GC) (gr : GA) : GE := gCall (fun vs h Q => vs.length = n ∧ S vs h Q) gr
theorem mcall {n k : Nat} {f : Addr} {fd : FuncData} {ps : List Str} {S : GC} {x : Str} {p : Pos} (F : FnOk X.prog X.w X.K X.mg X.base CX0 k f fd ps (spOf X.K ps.length S)) (hr : Room k X.A) (hm : X.mg x = some (.ref f)) (hk : PySem.W.keepIn X.K (.ref f) = true) (hb : Binds X.K fd ps [])
    (ha : MA X (a :: es) gr) (hl : ps.length = n := by rfl) (hg : Gl X x := by rfl) (hd : (x == ("__debug__" : Str)) = false := by decide) (hs : starEach (a :: es) X.env = (false, eval a X.env) :: starEach es X.env := by rfl) (hs2 : (backTo pos (starEach es X.env)).any (·.1) = false := by rfl) :
    MX X (.Call (.Name x p) (a :: es) [] pos) (gCallD n S gr) := by
  subst hl
  obtain ⟨t, a1, a2⟩ := ha.ex
  refine ⟨_, pe_call F hr hg hm hk hb .nil pass0 a1 hd hs hs2, fun m h H ρ σ QV Q rh re hg k => a2 m h H ρ σ _ _ rh re hg fun m1 H1 h1 vs xs e1 r1 t1 q => ?_⟩
  refine ⟨m1, h1, vs, QV, r1, by simpa using t1, q.1, q.2, fun m2 H2 h2 r z p q => k m2 H2 h2 r z (p.from_ e1 r1) q⟩
end
end VL

set_option autoImplicit false
namespace VL
open PySem L2
section
variable {K : PySem.W.Frag} {m m' : List Addr} {H H' : Hp} {h h' : VH} {ρ : Env} {σ : St} {X : Cx} {a b c : Expr} {ga gb gc : GE} {gt : GT} {pos : Pos} {gs gs2 : GS}
/-! ### statements -/
def gNext : GS := fun D ρ h => D.nx ρ h
/-- one behind the other; what stands between may be said -/
def gSeq (g1 g2 : GS) : GS := fun D ρ h => ∃ M : Env → VH → Prop, g1 { D with nx := M } ρ h ∧ ∀ ρ' h', M ρ' h' → g2 D ρ' h'
theorem ERel.from_ {W : WX} {D : VEnds} {E : Ends} (k : ERel K W m H D E) (e : Ev K m m' H H') (r : RH K m' h' H') : ERel K W m' H' D E :=
  ⟨fun m2 H2 h2 ρ σ e2 r2 re q => k.nx m2 H2 h2 ρ σ (e.trans e2) r2 re q, fun m2 H2 h2 x y p q => k.rt m2 H2 h2 x y (p.from_ e r) q,
   fun m2 H2 h2 ρ σ e2 r2 re q => k.bk m2 H2 h2 ρ σ (e.trans e2) r2 re q, fun m2 H2 h2 ρ σ e2 r2 re q => k.ct m2 H2 h2 ρ σ (e.trans e2) r2 re q,
   fun m2 H2 h2 ρ σ C fs vs dx ys e2 r2 re q => k.ex m2 H2 h2 ρ σ C fs vs dx ys (e.trans e2) r2 re q⟩
theorem mbnil : MB X [] gNext := ⟨_, pss_nil, fun m h H ρ σ D E rh re hg k => k.nx m H h ρ σ Ev.refl rh re hg⟩
theorem mbone {s : Stmt} (h1 : MS X s gs) : MB X [s] gs := by
  obtain ⟨t, a1, a2⟩ := h1.ex
  exact ⟨_, pss_one a1, a2⟩
theorem mbcons {s : Stmt} {rest : List Stmt} (h1 : MS X s gs) (h2 : MB X rest gs2) : MB X (s :: rest) (gSeq gs gs2) := by
  obtain ⟨t, a1, a2⟩ := h1.ex
  obtain ⟨u, b1, b2⟩ := h2.ex
  refine ⟨_, pss_cons a1 b1, fun m h H ρ σ D E rh re ⟨M, hg, hM⟩ k => a2 m h H ρ σ _ _ rh re hg ⟨fun m1 H1 h1 ρ1 σ1 e1 r1 re1 q => ?_, k.rt, k.bk, k.ct, k.ex⟩⟩
  exact b2 m1 h1 H1 ρ1 σ1 D E r1 re1 (hM _ _ q) (k.from_ e1 r1)
theorem mspass : MS X (.Pass pos) gNext := ⟨_, ps_pass, fun m h H ρ σ D E rh re hg k => k.nx m H h ρ σ Ev.refl rh re hg⟩
def gBrk : GS := fun D ρ h => D.bk ρ h
def gCnt : GS := fun D ρ h => D.ct ρ h
theorem msbrk : MS X (.Break pos) gBrk := ⟨_, ps_break, fun m h H ρ σ D E rh re hg k => k.bk m H h ρ σ Ev.refl rh re hg⟩
theorem mscnt : MS X (.Continue pos) gCnt := ⟨_, ps_continue, fun m h H ρ σ D E rh re hg k => k.ct m H h ρ σ Ev.refl rh re hg⟩
def gRet (ga : GE) : GS := fun D ρ h => ga ρ h D.rt
theorem msret (ha : MX X a ga) : MS X (.Return (some a) pos) (gRet ga) := by
  obtain ⟨t, a1, a2⟩ := ha.ex
  exact ⟨_, ps_ret a1, fun m h H ρ σ D E rh re hg k => a2 m h H ρ σ D.rt E.rt rh re hg fun m1 H1 h1 r x p q => k.rt m1 H1 h1 r x p q⟩
def gRetN : GS := fun D _ h => D.rt (.val .non) h
theorem msretn : MS X (.Return none pos) gRetN := ⟨_, ps_retN, fun m h H ρ σ D E rh re hg k => k.rt m H h _ _ (Pst.val rh .non) hg⟩
def gDrop (ga : GE) : GS := fun D ρ h => ga ρ h fun _ h1 => D.nx ρ h1
theorem msexpr (ha : MX X a ga) (hs : swapsWith a none pos.line X.env = pure false := by rfl) : MS X (.Expr a pos) (gDrop ga) := by
  obtain ⟨t, a1, a2⟩ := ha.ex
  exact ⟨_, ps_expr a1 hs, fun m h H ρ σ D E rh re hg k => a2 m h H ρ σ _ _ rh re hg fun m1 H1 h1 r x p q => k.nx m1 H1 h1 ρ σ p.ev p.rh (re.mono p.ev) q⟩
def gIfS (t : GT) (g1 g2 : GS) : GS := fun D ρ h => t ρ h fun b h1 => if b = true then g1 D ρ h1 else g2 D ρ h1
theorem msif {s1 s2 : List Stmt} (hc : MT X c gt) (h1 : MB X s1 gs) (h2 : MB X s2 gs2) : MS X (.If c s1 s2 pos) (gIfS gt gs gs2) := by
  obtain ⟨t, c1, c2⟩ := hc.ex
  obtain ⟨t1, a1, a2⟩ := h1.ex
  obtain ⟨t2, b1, b2⟩ := h2.ex
  refine ⟨_, ps_if c1 a1 b1, fun m h H ρ σ D E rh re hg k => c2 m h H ρ σ _ _ rh re hg fun m1 H1 h1 b e1 r1 q => ?_⟩
  cases b with
  | true => exact a2 m1 h1 H1 ρ σ D E r1 (re.mono e1) q (k.from_ e1 r1)
  | false => exact b2 m1 h1 H1 ρ σ D E r1 (re.mono e1) q (k.from_ e1 r1)
def gSet (i : Nat) (ga : GE) : GS := fun D ρ h => ga ρ h fun r h1 => put r h1 fun v h2 => D.nx (ρ.set i (some v)) h2
theorem rz_set {W : WX} {i : Nat} {te : TE} (ha : RzE K te ga) : RzS K W (tAsg te (L2.gName i)) (gSet i ga) := fun m h H ρ σ D E rh re hg k => ha m h H ρ σ _ _ rh re hg fun m1 H1 h1 r x p q =>
  put_ok p q fun m2 h2 v e2 r2 t2 pre q2 => k.nx m2 H1 h2 _ _ e2 r2 ((re.mono e2).set t2) q2
theorem msset (i : Nat) {x : Str} {pos' : Pos} (ha : MX X a ga) (hN : X.N.Nodup) (hi : X.N[i]? = some x := by rfl) (hx : L2.Loc X.env.scope x := by first | exact Or.inl rfl | exact Or.inr rfl) (hs : swapsWith a (some (.Name x pos')) pos.line X.env = pure false := by rfl)
    (hf : X.fn x = true ∨ X.env.scope.names.lookup x = some .local := by first | exact .inl rfl | exact .inr rfl | assumption) : MS X (.Assign [.Name x pos'] a pos) (gSet i ga) := by
  obtain ⟨t, a1, a2⟩ := ha.ex
  exact ⟨_, ps_set hN hi hx a1 hs hf, rz_set a2⟩

/-! ### targets -/
abbrev GG := VV → Env → (Env → Prop) → Prop
abbrev GGs := List VV → Env → (Env → Prop) → Prop
def OnlyAt (js : List Nat) (σ σ' : St) : Prop := σ'.length = σ.length ∧ ∀ i, i ∉ js → σ'[i]? = σ[i]?
def RzG (K : PySem.W.Frag) (g : TG) (gg : GG) (js : List Nat) : Prop := ∀ (m : List Addr) (h : VH) (H : Hp) (ρ : Env) (σ : St) (v : VV) (x : V) (QV : Env → Prop) (Q : St → Hp → Prop), RH K m h H → RE K m H ρ σ → RelT K m H v x → gg v ρ QV →
  (∀ ρ' σ', RE K m H ρ' σ' → OnlyAt js σ σ' → QV ρ' → Q σ' H) → g x σ H Q
def RzGs (K : PySem.W.Frag) (g : TGs) (gg : GGs) (js : List Nat) : Prop := ∀ (m : List Addr) (h : VH) (H : Hp) (ρ : Env) (σ : St) (v : List VV) (x : List V) (QV : Env → Prop) (Q : St → Hp → Prop), RH K m h H → RE K m H ρ σ → Rels K m H v x → gg v ρ QV →
  (∀ ρ' σ', RE K m H ρ' σ' → OnlyAt js σ σ' → QV ρ' → Q σ' H) → g x σ H Q
structure MG (X : Cx) (e : Expr) (gg : GG) (js : List Nat) : Prop where
  ex : ∃ t, PG X e t ∧ RzG X.K t gg js
structure MGs (X : Cx) (es : List Expr) (gg : GGs) (js : List Nat) : Prop where
  ex : ∃ t, PGs X es t ∧ RzGs X.K t gg js
def gtN (i : Nat) : GG := fun v ρ Q => Q (ρ.set i (some v))
theorem mgn (i : Nat) {x : Str} (hN : X.N.Nodup) (hi : X.N[i]? = some x := by rfl) (hx : L2.Loc X.env.scope x := by first | exact Or.inl rfl | exact Or.inr rfl) (hf : X.fn x = true ∨ X.env.scope.names.lookup x = some .local := by first | exact .inl rfl | exact .inr rfl | assumption) :
    MG X (.Name x pos) (gtN i) [i] := by
  refine ⟨_, pg_name hN hi hx hf, fun m h H ρ σ v x QV Q rh re r hg k => ?_⟩
  exact k _ _ (re.set r) ⟨by simp, fun j hj => by rw [List.getElem?_set_ne (by simp at hj; exact fun e => hj e.symm)]⟩ hg
def gtNil : GGs := fun vs ρ Q => vs = [] ∧ Q ρ
def gtCons (g : GG) (gs : GGs) : GGs := fun vs ρ Q => match vs with
  | v :: vs => g v ρ fun ρ' => gs vs ρ' Q
  | [] => False
theorem OnlyAt.trans {js ks : List Nat} {σ σ1 σ2 : St} (p : OnlyAt js σ σ1) (q : OnlyAt ks σ1 σ2) : OnlyAt (js ++ ks) σ σ2 := ⟨q.1.trans p.1, fun i hi => by
  rw [List.mem_append, not_or] at hi
  exact (q.2 i hi.2).trans (p.2 i hi.1)⟩
theorem mgsnil : MGs X [] gtNil [] := ⟨_, pgs_nil, fun m h H ρ σ v x QV Q rh re r hg k => by
  obtain ⟨rfl, q⟩ := hg
  cases x with
  | nil => exact ⟨rfl, k ρ σ re ⟨rfl, fun _ _ => rfl⟩ q⟩
  | cons => have := r.len; simp at this⟩
theorem mgscons {e : Expr} {es : List Expr} {g : GG} {gs : GGs} {js ks : List Nat} (h1 : MG X e g js) (h2 : MGs X es gs ks) (hs : (assignEach (e :: es) X.env).map (·.2) = assign e X.env :: (assignEach es X.env).map (·.2) := by rfl) : MGs X (e :: es) (gtCons g gs) (js ++ ks) := by
  obtain ⟨t, a1, a2⟩ := h1.ex
  obtain ⟨u, b1, b2⟩ := h2.ex
  refine ⟨_, pgs_cons a1 b1 hs, fun m h H ρ σ v x QV Q rh re r hg k => ?_⟩
  unfold gtCons at hg
  split at hg
  · rename_i v vs
    cases x with
    | nil => have := r.len; simp at this
    | cons x xs =>
      have r0 : RelT X.K m H v x := r.at_ 0 v x (by simp) (by simp)
      have r1 : Rels X.K m H vs xs := ⟨by have := r.len; simpa using this, fun i p q e1 e2 => r.at_ (i + 1) p q (by simpa using e1) (by simpa using e2)⟩
      exact ⟨x, xs, rfl, a2 m h H ρ σ v x _ _ rh re r0 hg fun ρ1 σ1 re1 o1 q1 => b2 m h H ρ1 σ1 vs xs QV Q rh re1 r1 q1 fun ρ2 σ2 re2 o2 q2 => k ρ2 σ2 re2 (o1.trans o2) q2⟩
  · exact hg.elim
def gtT (n : Nat) (gs : GGs) : GG := fun v ρ Q => match v with
  | .tup xs => xs.length = n ∧ gs xs ρ Q
  | _ => False
theorem mgt {es : List Expr} {kk : Nat} {g : GGs} {js : List Nat} {n : Nat} (hc : X.calm = true) (h : MGs X es g js) (hn : (assignEach es X.env).length = n := by rfl) (hst : (assignEach es X.env).findIdx? (·.1) = none := by rfl) :
    MG X (.Tuple es kk pos) (gtT n g) js := by
  obtain ⟨t, a1, a2⟩ := h.ex
  refine ⟨_, pg_tup (n := n) hc a1 hn hst, fun m h H ρ σ v x QV Q rh re r hg k => ?_⟩
  unfold gtT at hg
  split at hg
  · rename_i xs
    obtain ⟨p, ys, rfl, s, rs⟩ := r.tup_inv
    exact ⟨p, ys, rfl, s, by rw [← rs.len]; exact hg.1, a2 m h H ρ σ xs ys QV Q rh re rs hg.2 k⟩
  · exact hg.elim
def gAsg (g : GG) (ga : GE) : GS := fun D ρ h => ga ρ h fun r h1 => put r h1 fun v h2 => g v ρ fun ρ' => D.nx ρ' h2
theorem msasg {tg : Expr} {g : GG} {js : List Nat} (ha : MX X a ga) (hg : MG X tg g js) (hs : swapsWithSole [tg] a pos.line X.env = pure false := by rfl) (hw : swappedStores [tg] a X.env = pure none := by rfl)
    (h1 : (assignEach [tg] X.env).map (·.2) = [assign tg X.env] := by rfl) : MS X (.Assign [tg] a pos) (gAsg g ga) := by
  obtain ⟨t, a1, a2⟩ := ha.ex
  obtain ⟨u, b1, b2⟩ := hg.ex
  refine ⟨_, ps_asg a1 b1 hs hw h1, fun m h H ρ σ D E rh re hg k => a2 m h H ρ σ _ _ rh re hg fun m1 H1 h1 r x p q => put_ok p q fun m2 h2 v e2 r2 t2 pre q2 => ?_⟩
  exact b2 m2 h2 H1 ρ σ v x _ _ r2 (re.mono e2) t2 q2 fun ρ' σ' re' _ q' => k.nx m2 H1 h2 ρ' σ' e2 r2 re' q'

/-! ### what a loop walks -/
abbrev GI := Env → VH → (List VV → (VH → Prop) → VH → Prop) → Prop
structure WalkV (K : PySem.W.Frag) (m : List Addr) (H : Hp) (J : It) (xs : List VV) (st : VH → Prop) : Prop where
  ex : ∃ (G : Hp → Prop) (Y : Nat → Hp → V → Hp → Prop), Walk J xs.length G Y ∧ (∀ m2 h2 H2, Ev K m m2 H H2 → RH K m2 h2 H2 → st h2 → G H2) ∧
    ∀ (i : Nat) (Hh : Hp) (x : V) (Hg : Hp) (m2 : List Addr) (h2 : VH), Y i Hh x Hg → Ev K m m2 H Hh → RH K m2 h2 Hh → st h2 → ∀ v, xs[i]? = some v → Ev K m2 m2 Hh Hg ∧ RH K m2 h2 Hg ∧ RelT K m2 Hg v x
def RzI (K : PySem.W.Frag) (wi : TI) (gi : GI) : Prop := ∀ (m : List Addr) (h : VH) (H : Hp) (ρ : Env) (σ : St) (QV : List VV → (VH → Prop) → VH → Prop) (R : It → Hp → Prop), RH K m h H → RE K m H ρ σ → gi ρ h QV →
  (∀ m' H' h' J xs st, Ev K m m' H H' → RH K m' h' H' → WalkV K m' H' J xs st → QV xs st h' → R J H') → wi σ H R
structure MI (X : Cx) (tg iter : Expr) (gi : GI) : Prop where
  ex : ∃ t, PI X tg iter t ∧ RzI X.K t gi
/-! ### forgetting -/
mutual
def closedV (n : Nat) : VV → Bool
  | .tup xs => closedVs n xs
  | .rol xs => closedVs n xs
  | .ftp xs => closedVs n xs
  | .ref k => decide (k < n)
  | _ => true
def closedVs (n : Nat) : List VV → Bool
  | [] => true
  | x :: xs => closedV n x && closedVs n xs
end
def closedO (n : Nat) : VO → Bool
  | .lst xs => closedVs n xs
  | .dic _ vs => closedVs n vs
  | .dtu _ vs => closedVs n vs
  | .ins _ _ vs => closedVs n vs
  | .exc _ _ vs => closedVs n vs
  | .fdt _ _ vs => closedVs n vs
theorem closedVs_get {n : Nat} : ∀ {xs : List VV} {i : Nat} {x : VV}, closedVs n xs = true → xs[i]? = some x → closedV n x = true
  | [], _, _, _, e => by simp at e
  | y :: ys, 0, x, h, e => by
    simp at e; subst e
    simp [closedVs] at h; exact h.1
  | y :: ys, i + 1, x, h, e => by
    simp [closedVs] at h
    exact closedVs_get h.2 (by simpa using e)
theorem RelT.cut {n : Nat} {v : VV} {x : V} (r : RelT K m H v x) (c : closedV n v = true) : RelT K (m.take n) H v x := by
  induction r with
  | non => exact .non
  | bl => exact .bl
  | int => exact .int
  | str => exact .str
  | tup s l _ ih => exact .tup s l fun i x y e1 e2 => ih i x y e1 e2 (closedVs_get (by simpa [closedV] using c) e1)
  | rol s l _ ih => exact .rol s l fun i x y e1 e2 => ih i x y e1 e2 (closedVs_get (by simpa [closedV] using c) e1)
  | ftp s l _ ih => exact .ftp s l fun i x y e1 e2 => ih i x y e1 e2 (closedVs_get (by simpa [closedV] using c) e1)
  | @ref k a q =>
    have hk : k < n := by simpa [closedV] using c
    exact .ref (by rw [List.getElem?_take, if_pos hk]; exact q)
theorem Rels.cut {n : Nat} {v : List VV} {x : List V} (r : Rels K m H v x) (c : closedVs n v = true) : Rels K (m.take n) H v x := ⟨r.len, fun i p q e1 e2 => (r.at_ i p q e1 e2).cut (closedVs_get c e1)⟩
theorem RelO.cut {n : Nat} {p : Addr} {o : VO} (r : RelO K m H p o) (c : closedO n o = true) : RelO K (m.take n) H p o := by
  cases o with
  | lst xs => obtain ⟨ys, p, q⟩ := r; exact ⟨ys, p, q.cut c⟩
  | dic ks vs => obtain ⟨kvs, p, p2, q⟩ := r; exact ⟨kvs, p, p2, q.cut c⟩
  | dtu ks vs => obtain ⟨kvs, p, p2, q⟩ := r; exact ⟨kvs, p, p2, q.cut c⟩
  | ins C fs vs => obtain ⟨dx, ys, p, p2, q⟩ := r; exact ⟨dx, ys, p, p2, q.cut c⟩
  | fdt ob kvs vs => obtain ⟨p, q⟩ := r; exact ⟨p, q.cut c⟩
  | exc C fs vs => obtain ⟨dx, ys, p, px, nx, p2, q⟩ := r; exact ⟨dx, ys, p, px, fun z => nx (List.mem_of_mem_take z), p2, q.cut c⟩
def closedH (n : Nat) (h : VH) : Prop := ∀ o ∈ h, closedO n o = true
theorem RH.cut {n : Nat} (r : RH K m h H) (c : closedH n (h.take n)) : RH K (m.take n) (h.take n) H := ⟨r.nd.sublist (List.take_sublist _ _), by simp [r.len], fun k o a e1 e2 => by
  have hk : k < n := by
    have := (List.getElem?_eq_some_iff.mp e1).1
    simp at this; omega
  have e1' := e1
  rw [List.getElem?_take, if_pos hk] at e1 e2
  exact RelO.cut (r.obj k o a e1 e2) (c o (List.mem_of_getElem? e1'))⟩
/-- the state ρ, h with less known of it; the first n0 objects stay -/
def Fgt (n0 : Nat) (ρ : Env) (h : VH) (ρ' : Env) (h' : VH) : Prop :=
  (ρ' = ρ ∧ h' = h) ∨ (ρ'.length = ρ.length ∧ ∃ n, n0 ≤ n ∧ h' = h.take n ∧ closedH n h' ∧ ∀ (i : Nat) (v : VV), ρ'[i]? = some (some v) → ρ[i]? = some (some v) ∧ closedV n v = true)
theorem Ev.cut {n : Nat} {m0 : List Addr} {H0 : Hp} (e : Ev K m0 m H0 H) (hn : m0.length ≤ n) : Ev K m0 (m.take n) H0 H :=
  ⟨fun k a q => by
    have hk := (List.getElem?_eq_some_iff.mp q).1
    rw [List.getElem?_take, if_pos (by omega)]; exact e.pre k a q, e.tk, e.sk, e.ft, e.fr, fun a ha => e.new a (List.mem_of_mem_take ha)⟩
theorem fgt_ok {n0 : Nat} {m0 : List Addr} {H0 : Hp} {ρ' : Env} (f : Fgt n0 ρ h ρ' h') (hn : m0.length = n0) (e : Ev K m0 m H0 H) (r : RH K m h H) (re : RE K m H ρ σ) :
    ∃ m', Ev K m0 m' H0 H ∧ RH K m' h' H ∧ RE K m' H ρ' σ := by
  rcases f with ⟨rfl, rfl⟩ | ⟨hl, n, h0, rfl, hc, hv⟩
  · exact ⟨m, e, r, re⟩
  · refine ⟨m.take n, e.cut (by omega), r.cut hc, hl.trans re.len, fun i v q => ?_⟩
    obtain ⟨q1, q2⟩ := hv i v q
    obtain ⟨x, x1, x2⟩ := re.at_ i v q1
    exact ⟨x, x1, x2.cut q2⟩

/-! ### for -/
def forL (n0 : Nat) (st : VH → Prop) (g : GG) (gb : GS) (D : VEnds) : List VV → Env → VH → Prop
  | [], ρ, h => st h ∧ D.nx ρ h
  | x :: xs, ρ, h => st h ∧ g x ρ fun ρ1 => ∃ M : Env → VH → Prop, gb { nx := M, rt := D.rt, bk := D.nx, ct := M, ex := D.ex } ρ1 h ∧ ∀ ρ2 h2, M ρ2 h2 → ∃ ρ3 h3, Fgt n0 ρ2 h2 ρ3 h3 ∧ forL n0 st g gb D xs ρ3 h3
def gFor (gi : GI) (g : GG) (gb : GS) : GS := fun D ρ h => gi ρ h fun xs st h1 => forL h1.length st g gb D xs ρ h1
theorem forL_st {n0 : Nat} {st : VH → Prop} {g : GG} {gb : GS} {D : VEnds} {xs : List VV} (q : forL n0 st g gb D xs ρ h) : st h := by
  cases xs with
  | nil => exact q.1
  | cons => exact q.1
theorem rz_for {W : WX} {wi : TI} {gi : GI} {tg : TG} {g : GG} {js : List Nat} {tb : TS} (hi : RzI K wi gi) (hg : RzG K tg g js) (hb : RzS K W tb gs) : RzS K W (tFor wi tg tb) (gFor gi g gs) := fun m h H ρ σ D E rh re hq k => by
  refine hi m h H ρ σ _ _ rh re hq fun m1 H1 h1 J xs st e1 r1 w q => ?_
  obtain ⟨G, Y, wk, hG, hY⟩ := w.ex
  refine for_it wk (fun i σ' H' => ∃ m' h' ρ', Ev K m1 m' H1 H' ∧ RH K m' h' H' ∧ RE K m' H' ρ' σ' ∧ forL h1.length st g gs D (xs.drop i) ρ' h') ⟨m1, h1, ρ, Ev.refl, r1, re.mono e1, q⟩ ?_ ?_ ?_
  · rintro i σ' H' _ ⟨m', h', ρ', e', r', re', q'⟩
    exact hG m' h' H' e' r' (forL_st q')
  · rintro i x σ' H' H2 hi ⟨m', h', ρ', e', r', re', q'⟩ y
    have hx : xs[i]? = some xs[i] := List.getElem?_eq_getElem hi
    obtain ⟨y1, y2, y3⟩ := hY i H' x H2 m' h' y e' r' (forL_st q') _ hx
    rw [List.drop_eq_getElem_cons hi] at q'
    refine hg m' h' H2 ρ' σ' xs[i] x _ _ y2 (re'.mono y1) y3 q'.2 fun ρ2 σ2 re2 _ q2 => ?_
    obtain ⟨M, q2, hM⟩ := q2
    have e2 := e'.trans y1
    have nx : ∀ m3 H3 h3 ρ3 σ3, Ev K m' m3 H2 H3 → RH K m3 h3 H3 → RE K m3 H3 ρ3 σ3 → M ρ3 h3 →
        ∃ m' h' ρ', Ev K m1 m' H1 H3 ∧ RH K m' h' H3 ∧ RE K m' H3 ρ' σ3 ∧ forL h1.length st g gs D (xs.drop (i + 1)) ρ' h' := fun m3 H3 h3 ρ3 σ3 e3 r3 re3 qM => by
      obtain ⟨ρ4, h4, f, q4⟩ := hM _ _ qM
      obtain ⟨m5, e5, r5, re5⟩ := fgt_ok f r1.len (e2.trans e3) r3 re3
      exact ⟨m5, h4, ρ4, e5, r5, re5, q4⟩
    have k2 := k.from_ (e1.trans e2) y2
    exact hb m' h' H2 ρ2 σ2 _ _ y2 re2 q2 ⟨nx, k2.rt, k2.nx, nx, k2.ex⟩
  · rintro σ' H' ⟨m', h', ρ', e', r', re', q'⟩
    rw [List.drop_length] at q'
    exact k.nx m' H' h' ρ' σ' (e1.trans e') r' re' q'.2
theorem msfor {tg iter : Expr} {body : List Stmt} {gi : GI} {g : GG} {js : List Nat} (hi : MI X tg iter gi) (hg : MG X tg g js) (hb : MB X body gs) (hp : PassesOwn (model X.prog X.w) X.A X.env X.xe) (hc : X.calm = true := by rfl)
    (hs : ∀ x, foldedSetIterable iter X.env x = pure x := by intro _; rfl) : MS X (.For tg iter body [] pos) (gFor gi g gs) := by
  obtain ⟨t, a1, a2⟩ := hi.ex
  obtain ⟨u, b1, b2⟩ := hg.ex
  obtain ⟨v, c1, c2⟩ := hb.ex
  exact ⟨_, ps_for hp hc a1 b1 c1 hs, rz_for a2 b2 c2⟩
/-! ### while -/
def gWhile (t : GT) (gb : GS) : GS := fun D ρ h => ∃ W : Nat → Env → VH → Prop, (∃ k, W k ρ h) ∧ ∀ k ρ1 h1, W k ρ1 h1 → t ρ1 h1 fun b h2 => if b = true then
  gb { nx := fun ρ3 h3 => ∃ ρ4 h4 j, Fgt h.length ρ3 h3 ρ4 h4 ∧ j < k ∧ W j ρ4 h4, rt := D.rt, bk := D.nx, ct := fun ρ3 h3 => ∃ ρ4 h4 j, Fgt h.length ρ3 h3 ρ4 h4 ∧ j < k ∧ W j ρ4 h4, ex := D.ex } ρ1 h2 else D.nx ρ1 h2
theorem rz_while {Wx : WX} {tc : TT} {tb : TS} (hc : RzT K tc gt) (hb : RzS K Wx tb gs) : RzS K Wx (tWhile tc tb) (gWhile gt gs) := fun m h H ρ σ D E rh re hq k => by
  obtain ⟨W, ⟨j0, w0⟩, hW⟩ := hq
  refine ⟨fun j σ' H' => ∃ m' h' ρ', Ev K m m' H H' ∧ RH K m' h' H' ∧ RE K m' H' ρ' σ' ∧ W j ρ' h', ⟨j0, m, h, ρ, Ev.refl, rh, re, w0⟩, ?_⟩
  rintro j σ' H' ⟨m', h', ρ', e', r', re', w'⟩
  refine hc m' h' H' ρ' σ' _ _ r' re' (hW j ρ' h' w') fun m1 H1 h1 b e1 r1 q => ?_
  have k2 := k.from_ (e'.trans e1) r1
  cases b with
  | false => exact k2.nx m1 H1 h1 ρ' σ' Ev.refl r1 (re'.mono e1) q
  | true =>
    have nx : ∀ m3 H3 h3 ρ3 σ3, Ev K m1 m3 H1 H3 → RH K m3 h3 H3 → RE K m3 H3 ρ3 σ3 → (∃ ρ4 h4 i, Fgt h.length ρ3 h3 ρ4 h4 ∧ i < j ∧ W i ρ4 h4) →
        ∃ i, i < j ∧ ∃ m' h' ρ', Ev K m m' H H3 ∧ RH K m' h' H3 ∧ RE K m' H3 ρ' σ3 ∧ W i ρ' h' := fun m3 H3 h3 ρ3 σ3 e3 r3 re3 ⟨ρ4, h4, i, f, hi, q4⟩ => by
      obtain ⟨m5, e5, r5, re5⟩ := fgt_ok f rh.len ((e'.trans e1).trans e3) r3 re3
      exact ⟨i, hi, m5, h4, ρ4, e5, r5, re5, q4⟩
    exact ⟨fun σ3 H3 => ∃ i, i < j ∧ ∃ m' h' ρ', Ev K m m' H H3 ∧ RH K m' h' H3 ∧ RE K m' H3 ρ' σ3 ∧ W i ρ' h', fun _ _ z => z, hb m1 h1 H1 ρ' σ' _ _ r1 (re'.mono e1) q ⟨nx, k2.rt, k2.nx, nx, k2.ex⟩⟩
theorem mswhile {body : List Stmt} (hc : MT X c gt) (hb : MB X body gs) (hp : PassesOwn (model X.prog X.w) X.A X.env X.xe) : MS X (.While c body [] pos) (gWhile gt gs) := by
  obtain ⟨t, a1, a2⟩ := hc.ex
  obtain ⟨u, b1, b2⟩ := hb.ex
  exact ⟨_, ps_while hp a1 b1, rz_while a2 b2⟩
end
end VL

set_option autoImplicit false
namespace VL
open PySem L2
section
variable {K : PySem.W.Frag} {m m' : List Addr} {H H' : Hp} {h h' : VH} {ρ : Env} {σ : St} {X : Cx} {a b c : Expr} {ga gb gc : GE} {gt : GT} {pos : Pos} {gs gs2 : GS}
/-! ### one reading for all blocks -/
abbrev BP := Shared × Hp × Addr × List (Str × Addr) × List Addr
abbrev bx (X : Cx) (scope : Scope) (s : Shared) (H : Hp) (C : Addr) (cl : List (Str × Addr)) (fp : List Addr) : Cx := X.blk s H scope (compEnvC scope cl C X.env) fp
structure MTs (X : Cx) (ifs : List Expr) (g : GT) : Prop where
  ex : ∃ t, PTs X ifs t ∧ RzT X.K t g
def gYes : GT := fun _ h Q => Q true h
theorem mtsnil : MTs X [] gYes := ⟨_, pts_nil, fun m h H ρ σ QV Q rh re hg k => k m H h true Ev.refl rh hg⟩
theorem mtsone (ht : MT X c gt) : MTs X [c] gt := by
  obtain ⟨t, a1, a2⟩ := ht.ex
  exact ⟨_, pts_one a1, a2⟩
theorem unifE {scope : Scope} (he : ∀ s H C cl fp, MX (bx X scope s H C cl fp) a ga) : ∃ t, (∀ s H C cl fp, PE (bx X scope s H C cl fp) a t) ∧ RzE X.K t ga := by
  refine ⟨fun σ H Q => ∀ s H0 C cl fp, ∃ t, (PE (bx X scope s H0 C cl fp) a t ∧ RzE X.K t ga) ∧ t σ H Q, fun s H C cl fp => ⟨fun pins s1 σ H1 Q I hw => ?_⟩, fun m h H ρ σ QV Q rh re hg k s H0 C cl fp => ?_⟩
  · obtain ⟨t, ⟨p, _⟩, q⟩ := hw s H C cl fp
    exact p.run pins s1 σ H1 Q I q
  · obtain ⟨t, p, q⟩ := (he s H0 C cl fp).ex
    exact ⟨t, ⟨p, q⟩, q m h H ρ σ QV Q rh re hg k⟩
theorem unifT {scope : Scope} {ifs : List Expr} (he : ∀ s H C cl fp, MTs (bx X scope s H C cl fp) ifs gt) : ∃ t, (∀ s H C cl fp, PTs (bx X scope s H C cl fp) ifs t) ∧ RzT X.K t gt := by
  refine ⟨fun σ H Q => ∀ s H0 C cl fp, ∃ t, (PTs (bx X scope s H0 C cl fp) ifs t ∧ RzT X.K t gt) ∧ t σ H Q, fun s H C cl fp => ⟨fun pins s1 σ H1 Q I hw => ?_⟩, fun m h H ρ σ QV Q rh re hg k s H0 C cl fp => ?_⟩
  · obtain ⟨t, ⟨p, _⟩, q⟩ := hw s H C cl fp
    exact p.run pins s1 σ H1 Q I q
  · obtain ⟨t, p, q⟩ := (he s H0 C cl fp).ex
    exact ⟨t, ⟨p, q⟩, q m h H ρ σ QV Q rh re hg k⟩
theorem unifG {scope : Scope} {tg : Expr} {g : GG} {js : List Nat} (he : ∀ s H C cl fp, MG (bx X scope s H C cl fp) tg g js) : ∃ t, (∀ s H C cl fp, PG (bx X scope s H C cl fp) tg t) ∧ RzG X.K t g js := by
  refine ⟨fun v σ H Q => ∀ s H0 C cl fp, ∃ t, (PG (bx X scope s H0 C cl fp) tg t ∧ RzG X.K t g js) ∧ t v σ H Q, fun s H C cl fp => ⟨fun pins s1 σ H1 v u Q I r hw => ?_⟩, fun m h H ρ σ v x QV Q rh re r hg k s H0 C cl fp => ?_⟩
  · obtain ⟨t, ⟨p, _⟩, q⟩ := hw s H C cl fp
    exact p.run pins s1 σ H1 v u Q I r q
  · obtain ⟨t, p, q⟩ := (he s H0 C cl fp).ex
    exact ⟨t, ⟨p, q⟩, q m h H ρ σ v x QV Q rh re r hg k⟩
/-! ### comprehensions -/
def wipeV (ρ : Env) : List Nat → Env
  | [] => ρ
  | v :: vs => (wipeV ρ vs).set v none
theorem RE.wipe (r : RE K m H ρ σ) : ∀ vs : List Nat, RE K m H (wipeV ρ vs) (L2.wipe σ vs)
  | [] => r
  | v :: vs => by unfold wipeV L2.wipe; exact (r.wipe vs).unset
theorem wipe_in {σ : St} {i : Nat} : ∀ {vs : List Nat}, i ∈ vs → i < σ.length → (L2.wipe σ vs)[i]? = some none
  | [], h, _ => by simp at h
  | v :: vs, h, hl => by
    unfold L2.wipe
    by_cases e : v = i
    · subst e; rw [List.getElem?_set_self (by rw [wipe_length]; exact hl)]
    · rw [List.getElem?_set_ne e]
      exact wipe_in (by rcases List.mem_cons.mp h with z | z; exact absurd z.symm e; exact z) hl
theorem wipe_only {js vs : List Nat} {σ σ' : St} (o : OnlyAt js (L2.wipe σ vs) σ') (hj : ∀ j ∈ js, j ∈ vs) : L2.wipe σ' vs = L2.wipe σ vs := by
  apply List.ext_getElem?
  intro i
  have l1 : σ'.length = σ.length := by rw [o.1, wipe_length]
  by_cases hi : i ∈ vs
  · by_cases hl : i < σ.length
    · rw [wipe_in hi (by omega), wipe_in hi hl]
    · rw [List.getElem?_eq_none (by rw [wipe_length]; omega), List.getElem?_eq_none (by rw [wipe_length]; omega)]
  · rw [wipe_out hi, o.2 i fun z => hi (hj i z)]
def FgtL (n0 : Nat) (vs : List VV) (h h' : VH) : Prop := h' = h ∨ ∃ n, n0 ≤ n ∧ h' = h.take n ∧ closedH n h' ∧ closedVs n vs = true
def lcL (n0 : Nat) (st : VH → Prop) (g : GG) (gt : GT) (ge : GE) (ρw : Env) (Q : R → VH → Prop) : List VV → List VV → VH → Prop
  | [], acc, h => st h ∧ Q (.new (.lst acc)) h
  | x :: xs, acc, h => st h ∧ g x ρw fun ρ1 => ∃ M : Option VV → VH → Prop, (gt ρ1 h fun b h1 => if b = true then ge ρ1 h1 fun r h2 => put r h2 fun v h3 => M (some v) h3 else M none h1) ∧
      (∀ v h3, M (some v) h3 → acc.length < sizeLine ∧ ∃ h4, FgtL n0 (acc ++ [v]) h3 h4 ∧ lcL n0 st g gt ge ρw Q xs (acc ++ [v]) h4) ∧ ∀ h1, M none h1 → lcL n0 st g gt ge ρw Q xs acc h1
def gLc (gi : GI) (g : GG) (gt : GT) (ge : GE) (vs : List Nat) : GE := fun ρ h Q => gi ρ h fun xs st h1 => lcL h1.length st g gt ge (wipeV ρ vs) Q xs [] h1
theorem lcL_st {n0 : Nat} {st : VH → Prop} {g : GG} {ge : GE} {ρw : Env} {Q : R → VH → Prop} {xs acc : List VV} (q : lcL n0 st g gt ge ρw Q xs acc h) : st h := by
  cases xs with
  | nil => exact q.1
  | cons => exact q.1
theorem rz_lc {wi : TI} {gi : GI} {tg : TG} {g : GG} {js vs : List Nat} {tt : TT} {te : TE} (hi : RzI K wi gi) (hg : RzG K tg g js) (ht : RzT K tt gt) (he : RzE K te ga) (hj : ∀ j ∈ js, j ∈ vs) : RzE K (tLc wi tg tt te vs) (gLc gi g gt ga vs) := fun m h H ρ σ QV Q rh re hq k => by
  refine hi m h H ρ σ _ _ rh re hq fun m1 H1 h1 J xs st e1 r1 w q => ?_
  obtain ⟨G, Y, wk, hG, hY⟩ := w.ex
  intro D hD
  have lD := Ev.laid (K := K) (m := m1) (o := .lst []) hD
  refine lc_it wk (fun i H' => ∃ m' h' acc ys, Ev K m1 m' H1 H' ∧ RH K m' h' H' ∧ H' D = some (.lst ys) ∧ D ∉ m' ∧ Rels K m' H' acc ys ∧ lcL h1.length st g gt ga (wipeV ρ vs) QV (xs.drop i) acc h')
    ⟨m1, h1, [], [], lD, r1.laid hD, upd_same, r1.fresh hD, .nil, q⟩ ?_ ?_ ?_
  · rintro i H' _ ⟨m', h', acc, ys, e', r', _, _, _, q'⟩
    exact hG m' h' H' e' r' (lcL_st q')
  · rintro i x H' H2 hi' ⟨m', h', acc, ys, e', r', hd', nd', ra', q'⟩ y
    have hx : xs[i]? = some xs[i] := List.getElem?_eq_getElem hi'
    obtain ⟨y1, y2, y3⟩ := hY i H' x H2 m' h' y e' r' (lcL_st q') _ hx
    rw [List.drop_eq_getElem_cons hi'] at q'
    have rw1 : RE K m1 H1 (wipeV ρ vs) (L2.wipe σ vs) := (re.mono e1).wipe vs
    have hd2 : H2 D = some (.lst ys) := y1.fr D _ hd' nd'
    refine hg m' h' H2 _ _ xs[i] x _ _ y2 (rw1.mono (e'.trans y1)) y3 q'.2 fun ρ2 σ2 re2 o2 qq => ⟨wipe_only o2 hj, ?_⟩
    obtain ⟨M, q2, hMs, hMn⟩ := qq
    refine ht m' h' H2 ρ2 σ2 _ _ y2 re2 q2 fun m3 H3 h3 b e3 r3 q3 => ?_
    have hd3 : H3 D = some (.lst ys) := e3.fr D _ hd2 nd'
    have nd3 : D ∉ m3 := fun z => by
      rcases e3.new D z with z | z
      · exact nd' z
      · rw [z] at hd2; cases hd2
    cases b with
    | false => exact ⟨m3, h3, acc, ys, (e'.trans y1).trans e3, r3, hd3, nd3, ra'.mono (y1.trans e3), hMn _ q3⟩
    | true =>
      refine he m3 h3 H3 ρ2 σ2 _ _ r3 (re2.mono e3) q3 fun m4 H4 h4 r z p q4 => put_ok p q4 fun m5 h5 v e5 r5 t5 pre q5 => ?_
      have q5 := hMs _ _ q5
      have hd4 : H4 D = some (.lst ys) := e5.fr D _ hd3 nd3
      have nd5 : D ∉ m5 := fun z => by
        rcases e5.new D z with z | z
        · exact nd3 z
        · rw [z] at hd3; cases hd3
      have e15 := ((e'.trans y1).trans e3).trans e5
      have ra5 := ra'.mono ((y1.trans e3).trans e5)
      refine ⟨ys, hd4, by rw [← ra'.len]; exact q5.1, ?_⟩
      obtain ⟨h6, f, q6⟩ := q5.2
      have chg : Chg H4 D := fun u hu => by rw [hd4] at hu; cases hu; exact ⟨fun _ z => (nomatch z), fun _ _ z => (nomatch z)⟩
      have r5' : RH K m5 h5 (upd H4 D (.lst (ys ++ [z]))) := ⟨r5.nd, r5.len, fun n ob p e1 e2 => by
        have ne : p ≠ D := fun q => nd5 (q ▸ List.mem_of_getElem? e2)
        have mo : ∀ {v : VV} {x : V}, RelT K m5 H4 v x → RelT K m5 (upd H4 D (.lst (ys ++ [z]))) v x := fun r => by
          induction r with
          | non => exact .non
          | bl => exact .bl
          | int => exact .int
          | str => exact .str
          | tup s l _ ih => exact .tup (tupH_upd chg s) l ih
          | rol s l _ ih => exact .rol (sqR_upd chg s) l ih
          | ref q => exact .ref q
          | ftp s l _ ih => exact .ftp (ftT_upd chg s) l ih
        have ro := r5.obj n ob p e1 e2
        cases ob with
        | lst xs => obtain ⟨ys', p1, q1⟩ := ro; exact ⟨ys', by rw [upd_ne ne]; exact p1, q1.len, fun i x y e1 e2 => mo (q1.at_ i x y e1 e2)⟩
        | dic ks vs => obtain ⟨ys', p1, p2, q1⟩ := ro; exact ⟨ys', by rw [upd_ne ne]; exact p1, p2, q1.len, fun i x y e1 e2 => mo (q1.at_ i x y e1 e2)⟩
        | dtu ks vs => obtain ⟨ys', p1, p2, q1⟩ := ro; exact ⟨ys', by rw [upd_ne ne]; exact p1, p2, q1.len, fun i x y e1 e2 => mo (q1.at_ i x y e1 e2)⟩
        | fdt ob kvs vs => obtain ⟨p1, q1⟩ := ro; exact ⟨by rw [upd_ne ne]; exact p1, q1.len, fun i x y e1 e2 => mo (q1.at_ i x y e1 e2)⟩
        | exc C fs vs => obtain ⟨dx, ys', p1, px, nx, p2, q1⟩ := ro; exact ⟨dx, ys', by rw [upd_ne ne]; exact p1, by rw [upd_ne (fun z => by rw [z, hd4] at px; cases px)]; exact px, nx, p2, q1.len, fun i x y e1 e2 => mo (q1.at_ i x y e1 e2)⟩
        | ins C fs vs => obtain ⟨dx, ys', p1, p2, q1⟩ := ro; exact ⟨dx, ys', by rw [upd_ne ne]; exact p1, p2, q1.len, fun i x y e1 e2 => mo (q1.at_ i x y e1 e2)⟩⟩
      have mo : ∀ {v : VV} {x : V}, RelT K m5 H4 v x → RelT K m5 (upd H4 D (.lst (ys ++ [z]))) v x := fun r => by
        induction r with
        | non => exact .non
        | bl => exact .bl
        | int => exact .int
        | str => exact .str
        | tup s l _ ih => exact .tup (tupH_upd chg s) l ih
        | rol s l _ ih => exact .rol (sqR_upd chg s) l ih
        | ref q => exact .ref q
        | ftp s l _ ih => exact .ftp (ftT_upd chg s) l ih
      have ra6 : Rels K m5 (upd H4 D (.lst (ys ++ [z]))) (acc ++ [v]) (ys ++ [z]) := by
        have := ra5.append (Rels.nil.cons t5)
        exact ⟨this.len, fun i x y e1 e2 => mo (this.at_ i x y e1 e2)⟩
      have ev6 : Ev K m1 m5 H1 (upd H4 D (.lst (ys ++ [z]))) := ⟨e15.pre, fun a ys s => tupH_upd chg (e15.tk a ys s), fun a ys s => sqR_upd chg (e15.sk a ys s), fun a ys s => ftT_upd chg (e15.ft a ys s), fun p u hu hn => by
        rw [upd_ne (ne_of_none hu hD)]; exact e15.fr p u hu hn, e15.new⟩
      rcases f with rfl | ⟨n, hn, rfl, hc, hv⟩
      · exact ⟨m5, h6, acc ++ [v], ys ++ [z], ev6, r5', upd_same, nd5, ra6, q6⟩
      · exact ⟨m5.take n, _, acc ++ [v], ys ++ [z], ev6.cut (by rw [r1.len]; exact hn), r5'.cut hc, upd_same, fun z => nd5 (List.mem_of_mem_take z), ra6.cut hv, q6⟩
  · rintro H' ⟨m', h', acc, ys, e', r', hd', nd', ra', q'⟩
    rw [List.drop_length] at q'
    refine k m' H' h' (.new (.lst acc)) (.ref D) ⟨e1.trans e', r', ⟨D, rfl, nd', ys, hd', ra'⟩, fun o a _ z => ?_⟩ q'.2
    cases z
    exact e1.back r1 hD
theorem mlc {elt tg iter : Expr} {ifs : List Expr} {scope : Scope} {own : List (Str × Nat)} {gi : GI} {g : GG} {js : List Nat} (hN : X.N.Nodup) (hi : MI X tg iter gi) (ok : BlkOk X.N X.env.scope scope own)
    (hg : ∀ s H C cl fp, MG (bx X scope s H C cl fp) tg g js) (ht : ∀ s H C cl fp, MTs (bx X scope s H C cl fp) ifs gt) (he : ∀ s H C cl fp, MX (bx X scope s H C cl fp) elt ga)
    (hj : ∀ j ∈ js, j ∈ own.map (·.2) := by decide) (hc : X.calm = true := by rfl) (hs : ∀ x, foldedSetIterable iter X.env x = pure x := by intro _; rfl) :
    MX X (.ListComp elt [⟨tg, iter, ifs, 0⟩] scope pos) (gLc gi g gt ga (own.map (·.2))) := by
  obtain ⟨wi, i1, i2⟩ := hi.ex
  obtain ⟨tg', g1, g2⟩ := unifG hg
  obtain ⟨tt, t1, t2⟩ := unifT ht
  obtain ⟨te, e1, e2⟩ := unifE he
  exact ⟨_, pe_lc hc hN i1 ok g1 t1 e1 hs, rz_lc i2 g2 t2 e2 hj⟩
theorem mssetlc (i : Nat) {y : Str} {py spos : Pos} {elt tg iter : Expr} {ifs : List Expr} {scope : Scope} {own : List (Str × Nat)} {gi : GI} {g : GG} {js : List Nat} (hN : X.N.Nodup) (hi : MI X tg iter gi) (ok : BlkOk X.N X.env.scope scope own)
    (hg : ∀ s H C cl fp, MG (bx X scope s H C cl fp) tg g js) (ht : ∀ s H C cl fp, MTs (bx X scope s H C cl fp) ifs gt) (he : ∀ s H C cl fp, MX (bx X scope s H C cl fp) elt ga)
    (hj : ∀ j ∈ js, j ∈ own.map (·.2) := by decide) (hy : X.N[i]? = some y := by rfl) (hyl : X.env.scope.names.lookup y = some .local := by rfl)
    (hsw : swapsWith (.ListComp elt [⟨tg, iter, ifs, 0⟩] scope pos) (some (.Name y py)) spos.line X.env = pure true := by exact sw_true rfl rfl rfl (by decide +kernel))
    (hc : X.calm = true := by rfl) (hs : ∀ x, foldedSetIterable iter X.env x = pure x := by intro _; rfl) :
    MS X (.Assign [.Name y py] (.ListComp elt [⟨tg, iter, ifs, 0⟩] scope pos) spos) (gSet i (gLc gi g gt ga (own.map (·.2)))) := by
  obtain ⟨wi, i1, i2⟩ := hi.ex
  obtain ⟨tg', g1, g2⟩ := unifG hg
  obtain ⟨tt, t1, t2⟩ := unifT ht
  obtain ⟨te, e1, e2⟩ := unifE he
  exact ⟨_, ps_setLc hc hN hy hyl hsw i1 ok g1 t1 e1 hs, rz_set (rz_lc i2 g2 t2 e2 hj)⟩
end
/-! ### defs -/
section
variable {P : Program} {w : World} {K : PySem.W.Frag} {mg : Str → Option Value} {base : Heap}
/-- what a def hands back, the first n0 objects kept, less known of the others -/
inductive Fin (n0 : Nat) : R → VH → R → VH → Prop where
  | keep {r : R} {h : VH} : Fin n0 r h r h
  | val {v : VV} {h : VH} (n : Nat) : n0 ≤ n → closedH n (h.take n) → closedV n v = true → Fin n0 (.val v) h (.val v) (h.take n)
  | new {o : VO} {h : VH} (n : Nat) : n0 ≤ n → closedH n (h.take n) → closedO n o = true → Fin n0 (.new o) h (.new o) (h.take n)
  | out {k : Nat} {o : VO} {h : VH} (n : Nat) : n0 ≤ n → closedH n (h.take n) → n ≤ k → h[k]? = some o → closedO n o = true → Fin n0 (.val (.ref k)) h (.new o) (h.take n)
def fin (n0 : Nat) (QV : R → VH → Prop) (r : R) (h : VH) : Prop := ∃ r' h', Fin n0 r h r' h' ∧ QV r' h'
theorem fin_ok {m m1 : List Addr} {H H1 : Hp} {h1 h2 : VH} {r r2 : R} {x : V} {n0 : Nat} (f : Fin n0 r h1 r2 h2) (hn : m.length = n0) (p : Pst K m H m1 H1 h1 r x) : ∃ m2, Pst K m H m2 H1 h2 r2 x := by
  cases f with
  | keep => exact ⟨m1, p⟩
  | @val v h n h0 hc hv => exact ⟨m1.take n, p.ev.cut (by omega), p.rh.cut hc, RelT.cut p.rr hv, fun _ _ z => nomatch z⟩
  | @new o h n h0 hc hv =>
    obtain ⟨a, rfl, nm, ro⟩ := p.rr
    exact ⟨m1.take n, p.ev.cut (by omega), p.rh.cut hc, ⟨a, rfl, fun z => nm (List.mem_of_mem_take z), RelO.cut ro hv⟩, fun o' b _ z => by cases z; exact p.fresh _ a rfl rfl⟩
  | @out k o h n h0 hc hk ho hv =>
    obtain ⟨a, rfl, ha⟩ := RelT.ref_inv p.rr
    have nm : a ∉ m1.take n := fun z => by
      obtain ⟨j, hj⟩ := List.mem_iff_getElem?.mp z
      have hjn : j < n := by
        have := (List.getElem?_eq_some_iff.mp hj).1
        simp at this; omega
      rw [List.getElem?_take, if_pos hjn] at hj
      obtain ⟨l1, e1⟩ := List.getElem?_eq_some_iff.mp hj
      obtain ⟨l2, e2⟩ := List.getElem?_eq_some_iff.mp ha
      have := (List.getElem_inj p.rh.nd).mp (e1.trans e2.symm)
      omega
    refine ⟨m1.take n, p.ev.cut (by omega), p.rh.cut hc, ⟨a, rfl, nm, RelO.cut (p.rh.obj k o a ho ha) hv⟩, fun o' b _ z => ?_⟩
    cases z
    rcases p.ev.new a (List.mem_of_getElem? ha) with q | q
    · obtain ⟨j, hj⟩ := List.mem_iff_getElem?.mp q
      have hjl := (List.getElem?_eq_some_iff.mp hj).1
      have hj1 := p.ev.pre _ _ hj
      obtain ⟨l1, e1⟩ := List.getElem?_eq_some_iff.mp hj1
      obtain ⟨l2, e2⟩ := List.getElem?_eq_some_iff.mp ha
      have := (List.getElem_inj p.rh.nd).mp (e1.trans e2.symm)
      omega
    · exact q
def ini (n : Nat) (as : List VV) : Env := as.map some ++ List.replicate (n - as.length) none
theorem RE.ini {m : List Addr} {H : Hp} {N : List Str} {as : List VV} {vs : List V} (r : Rels K m H as vs) : RE K m H (ini N.length as) (L2.start N vs) := by
  refine ⟨by simp [VL.ini, L2.start, r.len], fun i v e => ?_⟩
  unfold VL.ini at e
  rw [List.getElem?_append] at e
  split at e
  · rename_i c
    rw [List.getElem?_map] at e
    cases q : as[i]? with
    | none => rw [q] at e; cases e
    | some w =>
      rw [q] at e
      cases e
      obtain ⟨x, x1, x2⟩ := r.get q
      refine ⟨x, ?_, x2⟩
      unfold L2.start
      rw [List.getElem?_append_left (by simpa [← r.len] using c), List.getElem?_map, x1]
      rfl
  · rename_i c
    rw [List.getElem?_replicate] at e
    split at e
    · cases e
    · cases e
theorem def_ok {x qual : Str} {st : Stmt} {f : Addr} {fd : FuncData} {N ps : List Str} {k : Nat} {S : GC} {g : GS} (F : Fun K x qual st f fd) (sc : FnScope N ps (defScope st))
    (hb : ∀ (cdv : Value) (A : Around) (outer : List PySem.Env) (s : Shared) (H : Hp) (E : XK), Room k (A.deeper (PyProof.Rows.envOfC qual (defScope st) s.heap.objs.size f cdv)) → MB (cxOf CX0 P w K mg base N qual (defScope st) f cdv A outer s H E).nox (defBody st) g)
    (hg : ∀ (as : List VV) (h : VH) (QV : R → VH → Prop), as.length = ps.length → S as h QV → g { nx := fun _ h' => fin h.length QV (.val .non) h', rt := fin h.length QV } (ini N.length as) h) :
    FnOk P w K mg base CX0 (k + 1) f fd ps (spOf K ps.length S) := by
  refine F.ok sc (fun vs H Q E hsp => ?_) (fun cdv A outer s H vs Q E hr hsp => ?_)
  · obtain ⟨m, h, as, QV, _, r, l, _⟩ := hsp
    rw [← r.len, l]
  · obtain ⟨m, h, as, QV, rh, r, l, hs, k⟩ := hsp
    obtain ⟨t, t1, t2⟩ := (hb cdv A outer s H E hr).ex
    refine ⟨t, t1, t2 m h H (ini N.length as) (L2.start N vs) _ _ rh (RE.ini r) (hg as h QV l hs) ⟨fun m1 H1 h1 ρ1 σ1 e1 r1 _ q => ?_, fun m1 H1 h1 r x p q => ?_, fun _ _ _ _ _ _ _ _ q => q.elim, fun _ _ _ _ _ _ _ _ q => q.elim, fun _ _ _ _ _ _ _ _ _ _ _ _ _ q => q.elim⟩⟩
    · obtain ⟨r2, h2, f, q2⟩ := q
      have p : Pst K m H m1 H1 h1 (.val .non) .non := ⟨e1, r1, .non, fun _ _ z => nomatch z⟩
      obtain ⟨m2, p2⟩ := fin_ok f rh.len p
      exact k m2 H1 h2 r2 .non p2 q2
    · obtain ⟨r2, h2, f, q2⟩ := q
      obtain ⟨m2, p2⟩ := fin_ok f rh.len p
      exact k m2 H1 h2 r2 x p2 q2
end
end VL

set_option autoImplicit false
namespace VL
open PySem L2
section
variable {K : PySem.W.Frag} {m m' : List Addr} {H H' : Hp} {h h' : VH} {ρ : Env} {σ : St} {X : Cx} {a b c : Expr} {ga gb gc : GE} {gt : GT} {pos : Pos} {gs gs2 : GS}
/-! ### a kept object is changed -/
theorem RelO.chg {p : Addr} {o : VO} (r : RelO K m H p o) : Chg H p := fun u hu => by
  obtain ⟨w, hw, q⟩ := RelO.there r
  rw [hu] at hw; cases hw; exact q
theorem ev_write {p : Addr} {o : HO} (hp : p ∈ m) (c : Chg H p) : Ev K m m H (upd H p o) :=
  ⟨fun _ _ e => e, fun a ys s => tupH_upd c s, fun a ys s => sqR_upd c s, fun a ys s => ftT_upd c s, fun a u hu hn => by rw [upd_ne fun e => hn (by rw [e]; exact hp)]; exact hu, fun _ e => .inl e⟩
theorem rh_write {n : Nat} {o ov : VO} {p : Addr} {u : HO} (rh : RH K m h H) (hn : h[n]? = some o) (hp : m[n]? = some p) (new : Ev K m m H (upd H p u) → RelO K m (upd H p u) p ov) : Ev K m m H (upd H p u) ∧ RH K m (h.set n ov) (upd H p u) := by
  have ro := rh.obj n o p hn hp
  have ev : Ev K m m H (upd H p u) := ev_write (List.mem_of_getElem? hp) (RelO.chg ro)
  refine ⟨ev, rh.nd, by simp [rh.len], fun k ob q e1 e2 => ?_⟩
  rw [List.getElem?_set] at e1
  split at e1
  · rename_i c
    subst c
    split at e1
    · cases e1
      rw [hp] at e2; cases e2
      exact new ev
    · cases e1
  · rename_i c
    have ne : q ≠ p := fun z => by
      subst z
      obtain ⟨l1, x1⟩ := List.getElem?_eq_some_iff.mp hp
      obtain ⟨l2, x2⟩ := List.getElem?_eq_some_iff.mp e2
      exact c ((List.getElem_inj rh.nd).mp (x1.trans x2.symm))
    exact RelO.stay ev (fun w hw => by rw [upd_ne ne]; exact hw) (rh.obj k ob q e1 e2)
theorem rh_setlst {n : Nat} {xs : List VV} {p : Addr} (xs' : List VV) (ys' : List V) (rh : RH K m h H) (hn : h[n]? = some (.lst xs)) (hp : m[n]? = some p) (r : Rels K m H xs' ys') : Ev K m m H (upd H p (.lst ys')) ∧ RH K m (h.set n (.lst xs')) (upd H p (.lst ys')) :=
  rh_write rh hn hp fun e => ⟨ys', upd_same, r.mono e⟩
theorem kept_lst {n : Nat} {xs : List VV} {x : V} (rh : RH K m h H) (hn : h[n]? = some (.lst xs)) (r : RelT K m H (.ref n) x) : ∃ p ys, x = .ref p ∧ m[n]? = some p ∧ H p = some (.lst ys) ∧ Rels K m H xs ys := by
  obtain ⟨p, rfl, hp⟩ := r.ref_inv
  obtain ⟨ys, h1, h2⟩ := rh.obj n _ p hn hp
  exact ⟨p, ys, rfl, hp, h1, h2⟩

/-! ### what is read as a list -/
/-- the items of a list, and whether it still stands so later -/
def lstOf (h : VH) : R → Option (List VV)
  | .val (.ref n) => match h[n]? with
    | some (.lst xs) => some xs
    | _ => none
  | .new (.lst xs) => some xs
  | _ => none
/-- of what can be read by places: list, tuple, the script -/
def seqOf (h : VH) : R → Option (List VV)
  | .val (.ref n) => match h[n]? with
    | some (.lst xs) => some xs
    | _ => none
  | .new (.lst xs) => some xs
  | .val (.tup xs) => some xs
  | .val (.rol xs) => some xs
  | .val (.ftp xs) => some xs
  | _ => none
theorem lstOf_ok {r : R} {x : V} {xs : List VV} (rh : RH K m h H) (rr : RelR K m H r x) (e : lstOf h r = some xs) : ∃ p ys, x = .ref p ∧ H p = some (.lst ys) ∧ Rels K m H xs ys := by
  unfold lstOf at e
  split at e
  · split at e
    · rename_i n ys hn
      cases e
      obtain ⟨p, ys, h1, _, h2, h3⟩ := kept_lst rh hn rr
      exact ⟨p, ys, h1, h2, h3⟩
    · cases e
  · cases e
    obtain ⟨p, h1, _, ys, h2, h3⟩ := rr
    exact ⟨p, ys, h1, h2, h3⟩
  · cases e
theorem seqOf_ok {r : R} {x : V} {xs : List VV} (rh : RH K m h H) (rr : RelR K m H r x) (e : seqOf h r = some xs) : ∃ p ys, x = .ref p ∧ (SqL K H p ys ∨ SqT K H p ys) ∧ Rels K m H xs ys := by
  unfold seqOf at e
  split at e
  · split at e
    · rename_i n ys hn
      cases e
      obtain ⟨p, ys, h1, _, h2, h3⟩ := kept_lst rh hn rr
      exact ⟨p, ys, h1, .inl (.of h2), h3⟩
    · cases e
  · cases e
    obtain ⟨p, h1, _, ys, h2, h3⟩ := rr
    exact ⟨p, ys, h1, .inl (.of h2), h3⟩
  · cases e
    obtain ⟨p, ys, h1, h2, h3⟩ := RelT.tup_inv rr
    exact ⟨p, ys, h1, .inr h2, h3⟩
  · cases e
    obtain ⟨p, ys, h1, h2, h3⟩ := RelT.rol_inv rr
    exact ⟨p, ys, h1, .inl h2.sq, h3⟩
  · cases e
    obtain ⟨p, ys, h1, h2, h3⟩ := RelT.ftp_inv rr
    exact ⟨p, ys, h1, .inr h2.sq, h3⟩
  · cases e

/-! ### what is walked -/
theorem seqOf_raw {r : R} {x : V} {xs : List VV} (rh : RH K m h H) (rr : RelR K m H r x) (e : seqOf h r = some xs) (nf : ∀ zs, r ≠ .val (.ftp zs)) : ∃ p ys, x = .ref p ∧ (SqL K H p ys ∨ H p = some (.tup ys)) ∧ Rels K m H xs ys := by
  unfold seqOf at e
  split at e
  · split at e
    · rename_i n ys hn
      cases e
      obtain ⟨p, ys, h1, _, h2, h3⟩ := kept_lst rh hn rr
      exact ⟨p, ys, h1, .inl (.of h2), h3⟩
    · cases e
  · cases e
    obtain ⟨p, h1, _, ys, h2, h3⟩ := rr
    exact ⟨p, ys, h1, .inl (.of h2), h3⟩
  · cases e
    obtain ⟨p, ys, h1, h2, h3⟩ := RelT.tup_raw rr
    exact ⟨p, ys, h1, .inr h2, h3⟩
  · cases e
    obtain ⟨p, ys, h1, h2, h3⟩ := RelT.rol_inv rr
    exact ⟨p, ys, h1, .inl h2.sq, h3⟩
  · cases e
    exact absurd rfl (nf _)
  · cases e

/-! ### what is walked -/
def stOf (r : R) (xs : List VV) : VH → Prop := match r with
  | .val (.ref n) => fun h2 => h2[n]? = some (.lst xs)
  | _ => fun _ => True
/-- over a list or a tuple, by its value -/
def giS (ga : GE) : GI := fun ρ h Q => ga ρ h fun r h1 => match seqOf h1 r with
  | some xs => Q xs (stOf r xs) h1
  | none => False
def iSq (K : PySem.W.Frag) (tl : TE) : TI := fun σ H R => tl σ H fun x H1 => ∃ p, x = .ref p ∧ (((∃ xs, SqL K H1 p xs) ∧ R (Itl K p) H1) ∨ ((∃ xs, SqT K H1 p xs) ∧ R (Itt K p) H1))
theorem pi_sq {tg l : Expr} {tl : TE} (hl : PE X l tl) : PI X tg l (iSq X.K tl) := ⟨fun pins s σ H R I hw => by
  refine thn (hl.run pins s σ H _ I hw) ?_
  rintro _ t ⟨_, G, J, rv, p, rfl, q⟩
  cases rv
  have nw : ∀ z ∈ [t.heap.objs.size], FpOk X pins G z := fun z hz => by
    cases List.mem_singleton.mp hz
    exact J.fpOk (Nat.le_refl _) (J.hok.fresh (Nat.le_refl _))
  rcases q with ⟨⟨xs, hx⟩, q⟩ | ⟨⟨xs, hx⟩, q⟩
  · obtain ⟨is, _, pl, _⟩ := J.list hx
    exact wpAny_pyIter_list pl.isList ⟨t.heap.objs.size, _, _, _, G, rfl, J.kept (t' := t.toks) (fun _ _ w => Heap.get?_push_of_some _ w), turn_list p t.heap.objs.size, ⟨_, Heap.get?_push_size _ rfl, rfl, rfl⟩, nw, q⟩
  · obtain ⟨is, _, pl, _⟩ := J.tuple hx
    exact wpAny_pyIter_tuple (show t.heap.IsTuple p is.toArray from pl) ⟨t.heap.objs.size, _, _, _, G, rfl, J.kept (t' := t.toks) (fun _ _ w => Heap.get?_push_of_some _ w), turn_tuple p t.heap.objs.size, ⟨_, Heap.get?_push_size _ rfl, rfl, rfl⟩, nw, q⟩⟩
theorem walkV_list {p : Addr} {xs : List VV} {st : VH → Prop} (hst : ∀ m2 h2 H2, Ev K m m2 H H2 → RH K m2 h2 H2 → st h2 → ∃ ys, SqL K H2 p ys ∧ Rels K m2 H2 xs ys) : WalkV K m H (Itl K p) xs st := by
  refine ⟨fun Hh => ∃ ys, SqL K Hh p ys ∧ ys.length = xs.length, fun i Hh x Hg => Hg = Hh ∧ ∀ ys, SqL K Hh p ys → ys[i]? = some x, ⟨fun i Hh hi ⟨ys, s, l⟩ => ?_, fun Hh ⟨ys, s, l⟩ => ?_, fun i Hh x Hg _ _ y => y⟩, fun m2 h2 H2 e r s => ?_, fun i Hh x Hg m2 h2 y e r s v hv => ?_⟩
  · exact ⟨ys, ys[i], s, List.getElem?_eq_getElem (by omega)⟩
  · exact ⟨ys, s, by omega⟩
  · obtain ⟨ys, q1, q2⟩ := hst m2 h2 H2 e r s
    exact ⟨ys, q1, q2.len.symm⟩
  · obtain ⟨rfl, y⟩ := y
    obtain ⟨ys, q1, q2⟩ := hst m2 h2 _ e r s
    exact ⟨Ev.refl, r, q2.at_ i v x hv (y ys q1)⟩
theorem walkV_tup {p : Addr} {xs : List VV} {ys : List V} (s : H p = some (.tup ys)) (r : Rels K m H xs ys) : WalkV K m H (Itt K p) xs (fun _ => True) := by
  refine ⟨fun Hh => SqT K Hh p ys, fun i Hh x Hg => Hg = Hh ∧ ys[i]? = some x, ⟨fun i Hh hi q => ?_, fun Hh q => ?_, fun i Hh x Hg _ q y => ⟨y.1, y.2 ys q⟩⟩, fun m2 h2 H2 e _ _ => .of (e.tk _ _ s), fun i Hh x Hg m2 h2 y e r2 _ v hv => ?_⟩
  · exact ⟨ys, ys[i]'(by rw [← r.len]; exact hi), q, List.getElem?_eq_getElem _⟩
  · exact ⟨ys, q, by rw [← r.len]; exact Nat.le_refl _⟩
  · obtain ⟨rfl, y⟩ := y
    exact ⟨Ev.refl, r2, (r.at_ i v x hv y).mono e⟩
theorem walkV_ftp {p : Addr} {xs : List VV} {ys : List V} (s : FtT H p ys) (r : Rels K m H xs ys) : WalkV K m H (Itt K p) xs (fun _ => True) := by
  refine ⟨fun Hh => SqT K Hh p ys, fun i Hh x Hg => Hg = Hh ∧ ys[i]? = some x, ⟨fun i Hh hi q => ?_, fun Hh q => ?_, fun i Hh x Hg _ q y => ⟨y.1, y.2 ys q⟩⟩, fun m2 h2 H2 e _ _ => (e.ft _ _ s).sq, fun i Hh x Hg m2 h2 y e r2 _ v hv => ?_⟩
  · exact ⟨ys, ys[i]'(by rw [← r.len]; exact hi), q, List.getElem?_eq_getElem _⟩
  · exact ⟨ys, q, by rw [← r.len]; exact Nat.le_refl _⟩
  · obtain ⟨rfl, y⟩ := y
    exact ⟨Ev.refl, r2, (r.at_ i v x hv y).mono e⟩
theorem mis {tg : Expr} (ha : MX X a ga) : MI X tg a (giS ga) := by
  obtain ⟨t, a1, a2⟩ := ha.ex
  refine ⟨_, pi_sq a1, fun m h H ρ σ QV R rh re hg k => a2 m h H ρ σ _ _ rh re hg fun m1 H1 h1 r x p q => ?_⟩
  split at q
  · rename_i xs e
    unfold seqOf at e
    split at e
    · split at e
      · rename_i n _ ys hn
        cases e
        obtain ⟨pa, ys, rfl, hp, h2, h3⟩ := kept_lst p.rh hn p.rr
        refine ⟨pa, rfl, .inl ⟨⟨_, .of h2⟩, k m1 H1 h1 _ _ _ p.ev p.rh (walkV_list fun m2 h2 H2 e2 r2 s2 => ?_) q⟩⟩
        obtain ⟨zs, z1, z2⟩ := r2.obj n _ pa s2 (e2.pre _ _ hp)
        exact ⟨zs, .of z1, z2⟩
      · cases e
    · cases e
      obtain ⟨pa, rfl, nm, ys, h2, h3⟩ := p.rr
      exact ⟨pa, rfl, .inl ⟨⟨_, .of h2⟩, k m1 H1 h1 _ _ _ p.ev p.rh (walkV_list fun m2 h2' H2 e2 r2 _ => ⟨ys, .of (e2.fr _ _ h2 nm), h3.mono e2⟩) q⟩⟩
    · cases e
      obtain ⟨pa, ys, rfl, h2, h3⟩ := RelT.tup_raw p.rr
      exact ⟨pa, rfl, .inr ⟨⟨_, .of h2⟩, k m1 H1 h1 _ _ _ p.ev p.rh (walkV_tup h2 h3) q⟩⟩
    · cases e
      obtain ⟨pa, ys, rfl, h2, h3⟩ := RelT.rol_inv p.rr
      exact ⟨pa, rfl, .inl ⟨⟨_, h2.sq⟩, k m1 H1 h1 _ _ _ p.ev p.rh (walkV_list fun m2 h2' H2 e2 r2 _ => ⟨ys, (e2.sk _ _ h2).sq, h3.mono e2⟩) q⟩⟩
    · cases e
      obtain ⟨pa, ys, rfl, h2, h3⟩ := RelT.ftp_inv p.rr
      exact ⟨pa, rfl, .inr ⟨⟨_, h2.sq⟩, k m1 H1 h1 _ _ _ p.ev p.rh (walkV_ftp h2 h3) q⟩⟩
    · cases e
  · exact q.elim
def rng (lo : Int) (n : Nat) : List VV := (List.range n).map fun (i : Nat) => VV.int (lo + i)
theorem walkV_rng {lo : Int} {n : Nat} : WalkV K m H (Itr lo n) (rng lo n) (fun _ => True) := by
  refine ⟨fun _ => True, fun i Hh x Hg => Hg = Hh ∧ x = .int (lo + i), ⟨fun i Hh hi _ => (show i < n by simpa [rng] using hi), fun Hh _ => by simp [rng, Itr], fun i Hh x Hg _ _ y => y⟩, fun _ _ _ _ _ _ => trivial, fun i Hh x Hg m2 h2 y e r2 _ v hv => ?_⟩
  obtain ⟨rfl, rfl⟩ := y
  have hi := (List.getElem?_eq_some_iff.mp hv).1
  have hi' : i < n := by simpa [rng] using hi
  have : v = .int (lo + i) := by
    have e : (rng lo n)[i]? = some (.int (lo + i)) := by simp [rng, hi']
    rw [hv] at e; exact Option.some.inj e
  subst this
  exact ⟨Ev.refl, r2, .int⟩
def giR1 (ga : GE) : GI := fun ρ h Q => ga ρ h fun r h1 => match r with
  | .val (.int n) => (-(2 ^ 62) ≤ n ∧ n < 2 ^ 62) ∧ Q (rng 0 n.toNat) (fun _ => True) h1
  | _ => False
theorem mir1 {tg : Expr} {p : Pos} (hm : X.mg "range" = none) (ha : MX X a ga) (hg : Gl X "range" := by rfl) (hs : starEach [a] X.env = [(false, eval a X.env)] := by rfl) : MI X tg (.Call (.Name "range" p) [a] [] pos) (giR1 ga) := by
  obtain ⟨t, a1, a2⟩ := ha.ex
  refine ⟨_, pi_range1 hg hm (pa_cons a1 pa_nil hs) hs, fun m h H ρ σ QV R rh re hg k => a2 m h H ρ σ _ _ rh re hg fun m1 H1 h1 r x p q => ?_⟩
  split at q
  · rename_i n
    cases RelT.int_inv p.rr
    exact ⟨n, rfl, q.1.1, q.1.2, k m1 H1 h1 _ _ _ p.ev p.rh walkV_rng q.2⟩
  · exact q.elim
def giR2 (ga gb : GE) : GI := fun ρ h Q => ga ρ h fun r h1 => gb ρ h1 fun s h2 => match r, s with
  | .val (.int i), .val (.int j) => (-(2 ^ 62) ≤ i ∧ i < 2 ^ 62 ∧ -(2 ^ 62) ≤ j ∧ j < 2 ^ 62) ∧ Q (rng i (j - i).toNat) (fun _ => True) h2
  | _, _ => False
theorem mir2 {tg : Expr} {p : Pos} (hm : X.mg "range" = none) (ha : MX X a ga) (hb : MX X b gb) (hg : Gl X "range" := by rfl) (hs : starEach [a, b] X.env = [(false, eval a X.env), (false, eval b X.env)] := by rfl) (hs2 : starEach [b] X.env = [(false, eval b X.env)] := by rfl) :
    MI X tg (.Call (.Name "range" p) [a, b] [] pos) (giR2 ga gb) := by
  obtain ⟨t, a1, a2⟩ := ha.ex
  obtain ⟨u, b1, b2⟩ := hb.ex
  refine ⟨_, pi_range2 hg hm (pa_cons a1 (pa_cons b1 pa_nil hs2) (hs.trans (by rw [hs2]))) hs hs2, fun m h H ρ σ QV R rh re hg k => a2 m h H ρ σ _ _ rh re hg fun m1 H1 h1 r x p q => b2 m1 h1 H1 ρ σ _ _ p.rh (re.mono p.ev) q fun m2 H2 h2 s y p2 q2 => ?_⟩
  split at q2
  · rename_i i j
    cases RelT.int_inv p.rr
    cases RelT.int_inv p2.rr
    exact ⟨i, j, rfl, q2.1, k m2 H2 h2 _ _ _ (p.ev.trans p2.ev) p2.rh walkV_rng q2.2⟩
  · exact q2.elim
end
end VL

set_option autoImplicit false
namespace VL
open PySem L2
section
variable {K : PySem.W.Frag} {m m' : List Addr} {H H' : Hp} {h h' : VH} {ρ : Env} {σ : St} {X : Cx} {a b c : Expr} {ga gb gc : GE} {gt : GT} {pos : Pos} {gs gs2 : GS}
/-! ### whole numbers -/
def goII (C : Int → Int → Prop) (f : Int → Int → VV) : GO := fun x y h Q => match x, y with
  | .val (.int i), .val (.int j) => C i j ∧ Q (.val (f i j)) h
  | _, _ => False
theorem rzo_ii {C : Int → Int → Prop} {f : Int → Int → VV} {g : Int → Int → V} (hf : ∀ i j m H, RelT K m H (f i j) (g i j)) : RzO K (rI C g) (goII C f) := fun m h H x y rx ry QV Q rh r1 r2 q k => by
  unfold goII at q
  split at q
  · rename_i i j
    cases RelT.int_inv r1
    cases RelT.int_inv r2
    exact ⟨i, j, rfl, rfl, q.1, k m H h _ _ (.val rh (hf i j m H)) q.2⟩
  · exact q.elim
theorem rzo_ii0 {f : Int → Int → VV} {g : Int → Int → V} (hf : ∀ i j m H, RelT K m H (f i j) (g i j)) : RzO K (rI0 g) (goII (fun _ _ => True) f) := fun m h H x y rx ry QV Q rh r1 r2 q k => by
  unfold goII at q
  split at q
  · rename_i i j
    cases RelT.int_inv r1
    cases RelT.int_inv r2
    exact ⟨i, j, rfl, rfl, k m H h _ _ (.val rh (hf i j m H)) q.2⟩
  · exact q.elim
/-- an operation with a second road -/
theorem MO.or {f : Value → Value → Sem Value} {r r' : R2} {go : GO} (h1 : OpR X f r) (h2 : OpR X f r') (hz : RzO X.K (fun x y H Q => r x y H Q ∨ r' x y H Q) go) : MO X f go := ⟨_, h1.or h2, hz⟩
/-! ### + -/
def goAdd : GO := fun x y h Q => match x, y with
  | .val (.int i), .val (.int j) => Q (.val (.int (i + j))) h
  | .val (.str s), .val (.str t) => s.length + t.length ≤ sizeLine ∧ Q (.val (.str (s ++ t))) h
  | .val (.tup s), .val (.tup t) => s.length + t.length ≤ sizeLine ∧ Q (.val (.tup (s ++ t))) h
  | x, y => match lstOf h x, lstOf h y with
    | some s, some t => s.length + t.length ≤ sizeLine ∧ Q (.new (.lst (s ++ t))) h
    | _, _ => False
theorem mo_add : MO X (binaryOp .Add) goAdd := by
  refine ⟨_, (op_add.or op_add_str).or (op_catA.or op_cat), fun m h H x y rx ry QV Q rh r1 r2 q k => ?_⟩
  unfold goAdd at q
  split at q
  · rename_i i j
    cases RelT.int_inv r1
    cases RelT.int_inv r2
    exact .inl (.inl ⟨i, j, rfl, rfl, k m H h _ _ (.val rh .int) q⟩)
  · rename_i i j
    cases RelT.str_inv r1
    cases RelT.str_inv r2
    exact .inl (.inr ⟨i, j, rfl, rfl, q.1, k m H h _ _ (.val rh .str) q.2⟩)
  · rename_i s t
    obtain ⟨p1, ys, rfl, h2, h3⟩ := RelT.tup_raw r1
    obtain ⟨p2, zs, rfl, k2, k3⟩ := RelT.tup_raw r2
    refine .inr (.inl ⟨p1, p2, ys, zs, rfl, rfl, .of h2, .of k2, by rw [← h3.len, ← k3.len]; exact q.1, fun e => ?_, fun e1 e => ?_, fun _ _ p hp => ?_⟩)
    · have e2 : s = [] := by rw [← List.length_eq_zero_iff, h3.len, e]; rfl
      subst e2
      exact k m H h _ _ (.val rh (.tup k2 k3.len k3.at_)) q.2
    · have e2 : t = [] := by rw [← List.length_eq_zero_iff, k3.len, e]; rfl
      subst e2
      rw [List.append_nil] at q
      exact k m H h _ _ (.val rh (.tup h2 h3.len h3.at_)) q.2
    · exact k m _ h _ _ (.tup rh hp (h3.append k3)) q.2
  · split at q
    · rename_i s t e1 e2
      obtain ⟨p1, ys, rfl, h2, h3⟩ := lstOf_ok rh r1 e1
      obtain ⟨p2, zs, rfl, k2, k3⟩ := lstOf_ok rh r2 e2
      exact .inr (.inr ⟨p1, p2, ys, zs, rfl, rfl, h2, k2, by rw [← h3.len, ← k3.len]; exact q.1, fun p hp => k m _ h _ _ (.lst rh hp (h3.append k3)) q.2⟩)
    · exact q.elim
def goSub : GO := goII (fun _ _ => True) fun i j => .int (i - j)
theorem mo_sub : MO X (binaryOp .Sub) goSub := ⟨_, op_sub, rzo_ii0 fun _ _ _ _ => .int⟩
/-! ### * -/
def goMul : GO := fun x y h Q => match x, y with
  | .val (.int i), .val (.int j) => (CMul i j ∨ CMulW i j) ∧ Q (.val (.int (i * j))) h
  | .val (.tup s), .val (.int j) => (s ≠ [] ∧ 2 ≤ j ∧ j ≤ 1000 ∧ s.length ≤ 1000) ∧ Q (.val (.tup (List.replicate j.toNat s).flatten)) h
  | x, .val (.int j) => match lstOf h x with
    | some s => (-(2 ^ 63) ≤ j ∧ j < 2 ^ 63 ∧ s.length * j.toNat ≤ sizeLine) ∧ Q (.new (.lst (List.replicate j.toNat s).flatten)) h
    | none => False
  | _, _ => False
theorem Rels.rep {xs : List VV} {ys : List V} (r : Rels K m H xs ys) : ∀ n : Nat, Rels K m H (List.replicate n xs).flatten (List.replicate n ys).flatten
  | 0 => .nil
  | n + 1 => by rw [List.replicate_succ, List.replicate_succ, List.flatten_cons, List.flatten_cons]; exact r.append (r.rep n)
theorem mo_mul : MO X (binaryOp .Mult) goMul := by
  refine ⟨_, (op_mul.or op_mulW).or (op_repT.or op_rep), fun m h H x y rx ry QV Q rh r1 r2 q k => ?_⟩
  unfold goMul at q
  split at q
  · rename_i i j
    cases RelT.int_inv r1
    cases RelT.int_inv r2
    rcases q.1 with c | c
    · exact .inl (.inl ⟨i, j, rfl, rfl, c, k m H h _ _ (.val rh .int) q.2⟩)
    · exact .inl (.inr ⟨i, j, rfl, rfl, c, k m H h _ _ (.val rh .int) q.2⟩)
  · rename_i s j
    obtain ⟨p1, ys, rfl, h2, h3⟩ := RelT.tup_inv r1
    cases RelT.int_inv r2
    obtain ⟨⟨a1, a2, a3, a4⟩, q⟩ := q
    refine .inr (.inl ⟨p1, j, ys, rfl, rfl, h2, fun e => a1 (by rw [← List.length_eq_zero_iff, h3.len, e]; rfl), a2, a3, by rw [← h3.len]; exact a4, fun p hp => ?_⟩)
    exact k m _ h _ _ (.tup rh hp (h3.rep _)) q
  · rename_i x j _ _
    cases RelT.int_inv r2
    split at q
    · rename_i s e1
      obtain ⟨p1, ys, rfl, h2, h3⟩ := lstOf_ok rh r1 e1
      obtain ⟨⟨a1, a2, a3⟩, q⟩ := q
      exact .inr (.inr ⟨p1, j, ys, rfl, rfl, h2, a1, a2, by rw [← h3.len]; exact a3, fun p hp => k m _ h _ _ (.lst rh hp (h3.rep _)) q⟩)
    · exact q.elim
  · exact q.elim
def goFdiv : GO := goII CDivW fun i j => .int (i / j)
theorem mo_fdiv : MO X (binaryOp .FloorDiv) goFdiv := ⟨_, op_fdivW, rzo_ii fun _ _ _ _ => .int⟩
def goMod : GO := goII (fun _ j => 0 < j) fun i j => .int (i % j)
theorem mo_mod : MO X (binaryOp .Mod) goMod := ⟨_, op_mod, rzo_ii fun _ _ _ _ => .int⟩
def goPow : GO := goII CPow fun i j => .int (i ^ j.toNat)
theorem mo_pow : MO X (binaryOp .Pow) goPow := ⟨_, op_pow, rzo_ii fun _ _ _ _ => .int⟩
def goLt : GO := goII (fun _ _ => True) fun i j => .bl (decide (i < j))
def goLe : GO := goII (fun _ _ => True) fun i j => .bl (decide (i ≤ j))
def goGt : GO := goII (fun _ _ => True) fun i j => .bl (decide (j < i))
def goGe : GO := goII (fun _ _ => True) fun i j => .bl (decide (j ≤ i))
theorem mo_lt : MO X (compareOp .Lt) goLt := ⟨_, op_lt, rzo_ii0 fun _ _ _ _ => .bl⟩
theorem mo_le : MO X (compareOp .LtE) goLe := ⟨_, op_le, rzo_ii0 fun _ _ _ _ => .bl⟩
theorem mo_gt : MO X (compareOp .Gt) goGt := ⟨_, op_gt, rzo_ii0 fun _ _ _ _ => .bl⟩
theorem mo_ge : MO X (compareOp .GtE) goGe := ⟨_, op_ge, rzo_ii0 fun _ _ _ _ => .bl⟩
def guNeg : GU := fun x h Q => match x with
  | .val (.int i) => Q (.val (.int (-i))) h
  | _ => False
theorem mu_neg : MU X (unaryOp .USub) guNeg := by
  refine ⟨_, un_neg, fun m h H x rx QV Q rh r1 q k => ?_⟩
  unfold guNeg at q
  split at q
  · rename_i i
    cases RelT.int_inv r1
    exact ⟨i, rfl, k m H h _ _ (.val rh .int) q⟩
  · exact q.elim
/-! ### is None, is True -/
def isNon : R → Bool
  | .val .non => true
  | _ => false
def isBl (c : Bool) : R → Option Bool
  | .val (.bl b) => some (decide (b = c))
  | _ => none
def goIs : GO := fun x y h Q => match y with
  | .val .non => Q (.val (.bl (isNon x))) h
  | .val (.bl c) => match x with
    | .val (.bl b) => Q (.val (.bl (decide (b = c)))) h
    | _ => False
  | _ => False
def goIsNot : GO := fun x y h Q => match y with
  | .val .non => Q (.val (.bl (!isNon x))) h
  | .val (.bl c) => match x with
    | .val (.bl b) => Q (.val (.bl (!decide (b = c)))) h
    | _ => False
  | _ => False
theorem isNon_ok {r : R} {x : V} (rr : RelR K m H r x) : decide (x = .non) = isNon r := by
  cases r with
  | new o => obtain ⟨p, rfl, _⟩ := rr; rfl
  | val v =>
    cases v with
    | non => cases RelT.non_inv rr; rfl
    | bl b => cases RelT.bl_inv rr; rfl
    | int i => cases RelT.int_inv rr; rfl
    | str s => cases RelT.str_inv rr; rfl
    | tup xs => obtain ⟨p, ys, rfl, _⟩ := RelT.tup_inv rr; rfl
    | rol xs => obtain ⟨p, ys, rfl, _⟩ := RelT.rol_inv rr; rfl
    | ref n => obtain ⟨p, rfl, _⟩ := RelT.ref_inv rr; rfl
    | ftp xs => obtain ⟨p, ys, rfl, _⟩ := RelT.ftp_inv rr; rfl
theorem mo_is : MO X (compareOp .Is) goIs := by
  refine ⟨_, op_isN.or op_is_bl, fun m h H x y rx ry QV Q rh r1 r2 q k => ?_⟩
  unfold goIs at q
  split at q
  · cases RelT.non_inv r2
    exact .inl ⟨rfl, by rw [isNon_ok r1]; exact k m H h _ _ (.val rh .bl) q⟩
  · cases RelT.bl_inv r2
    split at q
    · cases RelT.bl_inv r1
      exact .inr ⟨_, _, rfl, rfl, k m H h _ _ (.val rh .bl) q⟩
    · exact q.elim
  · exact q.elim
theorem mo_isnot : MO X (compareOp .IsNot) goIsNot := by
  refine ⟨_, op_notN.or op_isnot_bl, fun m h H x y rx ry QV Q rh r1 r2 q k => ?_⟩
  unfold goIsNot at q
  split at q
  · cases RelT.non_inv r2
    exact .inl ⟨rfl, by rw [isNon_ok r1]; exact k m H h _ _ (.val rh .bl) q⟩
  · cases RelT.bl_inv r2
    split at q
    · cases RelT.bl_inv r1
      exact .inr ⟨_, _, rfl, rfl, k m H h _ _ (.val rh .bl) q⟩
    · exact q.elim
  · exact q.elim
/-! ### data, ==, in -/
def optAll {α β : Type} (g : α → Option β) : List α → Option (List β)
  | [] => some []
  | x :: xs => match g x, optAll g xs with
    | some y, some ys => some (y :: ys)
    | _, _ => none
theorem optAll_map {α β γ : Type} {g : α → Option β} {k : γ → α} {j : γ → β} (e : ∀ x, g (k x) = some (j x)) : ∀ xs : List γ, optAll g (xs.map k) = some (xs.map j)
  | [] => rfl
  | x :: xs => by rw [List.map_cons, optAll, e, optAll_map e xs]; rfl
theorem optAll_mem {α β γ : Type} {g : α → Option β} {k : γ → α} {j : γ → β} : ∀ {xs : List γ}, (∀ x ∈ xs, g (k x) = some (j x)) → optAll g (xs.map k) = some (xs.map j)
  | [], _ => rfl
  | x :: xs, e => by rw [List.map_cons, optAll, e x (by simp), optAll_mem fun y hy => e y (by simp [hy])]; rfl
def dV : Nat → VH → VV → Option PyData
  | 0, _, _ => none
  | f + 1, h, v => match v with
    | .non => some .none
    | .bl b => some (.bool b)
    | .int i => some (.int i)
    | .str s => if PyData.strOk s = true then some (.str s) else none
    | .tup xs => (optAll (dV f h) xs).map .tuple
    | .rol xs => (optAll (dV f h) xs).map .list
    | .ftp xs => (optAll (dV f h) xs).map .tuple
    | .ref n => match h[n]? with
      | some (.lst xs) => (optAll (dV f h) xs).map .list
      | _ => none
def dR (h : VH) : R → Option PyData
  | .val v => dV 20 h v
  | .new (.lst xs) => (optAll (dV 20 h) xs).map .list
  | _ => none
theorem optAll_dp {f : Nat} (ih : ∀ (v : VV) (x : V) (d : PyData), RelT K m H v x → dV f h v = some d → Dp K H x d ∧ d.canLay0 = true ∧ d.depth ≤ f) : ∀ {xs : List VV} {ys : List V} {ds : List PyData}, Rels K m H xs ys → optAll (dV f h) xs = some ds → DpAll K H ys ds ∧ PyData.canLayAll0 ds = true ∧ PyData.depthAll ds ≤ f
  | [], ys, ds, r, e => by
    cases ys with
    | nil => cases e; exact ⟨.nil, rfl, Nat.zero_le _⟩
    | cons => have := r.len; simp at this
  | x :: xs, ys, ds, r, e => by
    cases ys with
    | nil => have := r.len; simp at this
    | cons y ys =>
      unfold optAll at e
      split at e
      · rename_i d1 ds1 e1 e2
        cases e
        obtain ⟨a1, a2, a3⟩ := ih x y d1 (r.at_ 0 x y (by simp) (by simp)) e1
        obtain ⟨b1, b2, b3⟩ := optAll_dp ih (xs := xs) (ys := ys) ⟨by have := r.len; simpa using this, fun i p q e1 e2 => r.at_ (i + 1) p q (by simpa using e1) (by simpa using e2)⟩ e2
        exact ⟨.cons a1 b1, by unfold PyData.canLayAll0; rw [a2, b2]; rfl, by unfold PyData.depthAll; omega⟩
      · cases e
theorem dV_ok (rh : RH K m h H) : ∀ (f : Nat) (v : VV) (x : V) (d : PyData), RelT K m H v x → dV f h v = some d → Dp K H x d ∧ d.canLay0 = true ∧ d.depth ≤ f
  | 0, _, _, _, _, e => by cases e
  | f + 1, v, x, d, r, e => by
    unfold dV at e
    split at e
    · cases e; cases RelT.non_inv r; exact ⟨.non, rfl, Nat.zero_le _⟩
    · cases e; cases RelT.bl_inv r; exact ⟨.bl _, rfl, Nat.zero_le _⟩
    · cases e; cases RelT.int_inv r; exact ⟨.int _, rfl, Nat.zero_le _⟩
    · split at e
      · rename_i hs
        cases e; cases RelT.str_inv r; exact ⟨.str _, hs, Nat.zero_le _⟩
      · cases e
    · rename_i xs
      obtain ⟨p, ys, rfl, h2, h3⟩ := RelT.tup_inv r
      cases q : optAll (dV f h) xs with
      | none => rw [q] at e; cases e
      | some ds =>
        rw [q] at e; cases e
        obtain ⟨a1, a2, a3⟩ := optAll_dp (dV_ok rh f) h3 q
        exact ⟨.tup h2 a1, a2, by unfold PyData.depth; omega⟩
    · rename_i xs
      obtain ⟨p, ys, rfl, h2, h3⟩ := RelT.rol_inv r
      cases q : optAll (dV f h) xs with
      | none => rw [q] at e; cases e
      | some ds =>
        rw [q] at e; cases e
        obtain ⟨a1, a2, a3⟩ := optAll_dp (dV_ok rh f) h3 q
        exact ⟨.lst h2.sq a1, a2, by unfold PyData.depth; omega⟩
    · rename_i xs
      obtain ⟨p, ys, rfl, h2, h3⟩ := RelT.ftp_inv r
      cases q : optAll (dV f h) xs with
      | none => rw [q] at e; cases e
      | some ds =>
        rw [q] at e; cases e
        obtain ⟨a1, a2, a3⟩ := optAll_dp (dV_ok rh f) h3 q
        exact ⟨.tup h2.sq a1, a2, by unfold PyData.depth; omega⟩
    · split at e
      · rename_i n _ xs hn
        obtain ⟨p, ys, rfl, _, h2, h3⟩ := kept_lst rh hn r
        cases q : optAll (dV f h) xs with
        | none => rw [q] at e; cases e
        | some ds =>
          rw [q] at e; cases e
          obtain ⟨a1, a2, a3⟩ := optAll_dp (dV_ok rh f) h3 q
          exact ⟨.lst (.of h2) a1, a2, by unfold PyData.depth; omega⟩
      · cases e
theorem dR_ok {r : R} {x : V} {d : PyData} (rh : RH K m h H) (rr : RelR K m H r x) (e : dR h r = some d) : Dp K H x d ∧ SeqAt.shaped d = true := by
  unfold dR at e
  split at e
  · obtain ⟨a1, a2, a3⟩ := dV_ok rh 20 _ _ _ rr e
    exact ⟨a1, by unfold SeqAt.shaped; rw [a2, decide_eq_true (by omega)]; rfl⟩
  · rename_i xs
    obtain ⟨p, rfl, _, ys, h2, h3⟩ := rr
    cases q : optAll (dV 20 h) xs with
    | none => rw [q] at e; cases e
    | some ds =>
      rw [q] at e; cases e
      obtain ⟨a1, a2, a3⟩ := optAll_dp (dV_ok rh 20) h3 q
      refine ⟨.lst (.of h2) a1, ?_⟩
      unfold SeqAt.shaped PyData.canLay0 PyData.depth
      rw [a2, decide_eq_true (by omega)]; rfl
  · cases e
def goEq : GO := fun x y h Q => match dR h x, dR h y with
  | some d, some e => Q (.val (.bl (PyData.eqv d e))) h
  | _, _ => False
def goNe : GO := fun x y h Q => match dR h x, dR h y with
  | some d, some e => Q (.val (.bl (!PyData.eqv d e))) h
  | _, _ => False
theorem mo_eq (hu : X.A.units + 64 < cLine) : MO X (compareOp .Eq) goEq := by
  refine ⟨_, op_eqD hu, fun m h H x y rx ry QV Q rh r1 r2 q k => ?_⟩
  unfold goEq at q
  split at q
  · rename_i d e e1 e2
    obtain ⟨a1, a2⟩ := dR_ok rh r1 e1
    obtain ⟨b1, b2⟩ := dR_ok rh r2 e2
    exact ⟨d, e, a1, b1, a2, b2, k m H h _ _ (.val rh .bl) q⟩
  · exact q.elim
theorem mo_ne (hu : X.A.units + 64 < cLine) : MO X (compareOp .NotEq) goNe := by
  refine ⟨_, op_neD hu, fun m h H x y rx ry QV Q rh r1 r2 q k => ?_⟩
  unfold goNe at q
  split at q
  · rename_i d e e1 e2
    obtain ⟨a1, a2⟩ := dR_ok rh r1 e1
    obtain ⟨b1, b2⟩ := dR_ok rh r2 e2
    exact ⟨d, e, a1, b1, a2, b2, k m H h _ _ (.val rh .bl) q⟩
  · exact q.elim
end
end VL

set_option autoImplicit false
namespace VL
open PySem L2
section
variable {K : PySem.W.Frag} {m m' : List Addr} {H H' : Hp} {h h' : VH} {ρ : Env} {σ : St} {X : Cx} {a b c : Expr} {ga gb gc : GE} {gt : GT} {pos : Pos} {gs gs2 : GS}
/-! ### places -/
theorem atI_rel {xs : List VV} {ys : List V} {i : Int} {v : VV} (r : Rels K m H xs ys) (e : atI xs i = some v) : ∃ y, atI ys i = some y ∧ RelT K m H v y := by
  unfold atI at e ⊢
  rw [← r.len]
  cases q : ixN xs.length i with
  | none => rw [q] at e; cases e
  | some j =>
    rw [q] at e
    exact r.get e
def goIx : GO := fun x y h Q => match y with
  | .val (.int i) => match x with
    | .val (.str z) => z.length ≤ sizeLine ∧ match atI z.cps.toList i with
      | some c => Q (.val (.str ⟨#[c]⟩)) h
      | none => False
    | x => match seqOf h x with
      | some xs => match atI xs i with
        | some v => Q (.val v) h
        | none => False
      | none => False
  | _ => False
theorem mo_ix : ∃ r, IxR X r ∧ RzO X.K r goIx := by
  refine ⟨_, ix_seq, fun m h H x y rx ry QV Q rh r1 r2 q k => ?_⟩
  unfold goIx at q
  split at q
  · rename_i i
    cases RelT.int_inv r2
    split at q
    · rename_i z
      cases RelT.str_inv r1
      obtain ⟨q0, q⟩ := q
      split at q
      · rename_i c hc
        exact .inr (.inr ⟨z, i, c, rfl, rfl, q0, hc, k m H h _ _ (.val rh .str) q⟩)
      · exact q.elim
    · split at q
      · rename_i xs hx
        obtain ⟨p, ys, rfl, h2, h3⟩ := seqOf_ok rh r1 hx
        split at q
        · rename_i v hv
          obtain ⟨y, y1, y2⟩ := atI_rel h3 hv
          rcases h2 with h2 | h2
          · exact .inl ⟨p, ys, i, y, rfl, rfl, h2, y1, k m H h _ _ (.val rh y2) q⟩
          · exact .inr (.inl ⟨p, ys, i, y, rfl, rfl, h2, y1, k m H h _ _ (.val rh y2) q⟩)
        · exact q.elim
      · exact q.elim
  · exact q.elim
theorem mx_ix (ha : MX X a ga) (hb : MX X b gb) (hp : PlainIx b := by exact fun _ _ => rfl) : MX X (.Subscript a b pos) (gB goIx ga gb) := mix mo_ix ha hb hp
/-! ### slices -/
abbrev GP := Env → VH → (Option Int → VH → Prop) → Prop
def RzP (K : PySem.W.Frag) (t : TO) (g : GP) : Prop := ∀ (m : List Addr) (h : VH) (H : Hp) (ρ : Env) (σ : St) (QV : Option Int → VH → Prop) (Q : Option Int → Hp → Prop), RH K m h H → RE K m H ρ σ → g ρ h QV →
  (∀ m' H' h' o, Ev K m m' H H' → RH K m' h' H' → QV o h' → Q o H') → t σ H Q
structure MP (X : Cx) (e : Option Expr) (g : GP) : Prop where
  ex : ∃ t, PO X e t ∧ RzP X.K t g
def gpN : GP := fun _ h Q => Q none h
def gpS (ga : GE) : GP := fun ρ h Q => ga ρ h fun r h1 => match r with
  | .val (.int i) => Q (some i) h1
  | _ => False
theorem mpn : MP X none gpN := ⟨_, po_none, fun m h H ρ σ QV Q rh re hg k => k m H h none Ev.refl rh hg⟩
theorem mps (ha : MX X a ga) : MP X (some a) (gpS ga) := by
  obtain ⟨t, a1, a2⟩ := ha.ex
  refine ⟨_, po_some a1, fun m h H ρ σ QV Q rh re hg k => a2 m h H ρ σ _ _ rh re hg fun m1 H1 h1 r x p q => ?_⟩
  split at q
  · rename_i i
    exact ⟨i, RelT.int_inv p.rr, k m1 H1 h1 _ p.ev p.rh q⟩
  · exact q.elim
def cutVV (xs : List VV) (lo hi : Option Int) : List VV := (xs.drop (HT.sIx xs.length 0 lo)).take (HT.sIx xs.length xs.length hi - HT.sIx xs.length 0 lo)
theorem Rels.cutv {xs : List VV} {ys : List V} (r : Rels K m H xs ys) (lo hi : Option Int) : Rels K m H (cutVV xs lo hi) (cutV ys lo hi) := by
  unfold cutVV cutV
  rw [← r.len]
  exact (r.drop _).take _
def gSl (ga : GE) (gl gu : GP) : GE := fun ρ h Q => ga ρ h fun r h1 => gl ρ h1 fun lo h2 => gu ρ h2 fun hi h3 => match r with
  | .val (.str z) => z.length ≤ sizeLine ∧ Q (.val (.str (cutS z lo hi))) h3
  | .val (.tup xs) => Q (.val (.tup (cutVV xs lo hi))) h3
  | .val (.rol xs) => Q (.new (.lst (cutVV xs lo hi))) h3
  | r => match lstOf h3 r with
    | some xs => Q (.new (.lst (cutVV xs lo hi))) h3
    | none => False
theorem SlR.or {r r' : V → Option Int → Option Int → Hp → VK → Prop} (h1 : SlR X r) (h2 : SlR X r') : SlR X (fun x lo hi H Q => r x lo hi H Q ∨ r' x lo hi H Q) := fun pins s σ H x v vl vu lo hi sl Q I r a b c hw => by
  rcases hw with hw | hw
  · exact h1 pins s σ H x v vl vu lo hi sl Q I r a b c hw
  · exact h2 pins s σ H x v vl vu lo hi sl Q I r a b c hw
theorem full_cut {xs : List VV} {lo hi : Option Int} (e : HT.sIx xs.length 0 lo = 0 ∧ HT.sIx xs.length xs.length hi = xs.length) : cutVV xs lo hi = xs := by
  unfold cutVV
  rw [e.1, e.2]
  simp
theorem msl {lo hi : Option Expr} {gl gu : GP} {p2 : Pos} (ha : MX X a ga) (hl : MP X lo gl) (hu : MP X hi gu) : MX X (.Subscript a (.Slice lo hi none p2) pos) (gSl ga gl gu) := by
  obtain ⟨t, a1, a2⟩ := ha.ex
  obtain ⟨tl, l1, l2⟩ := hl.ex
  obtain ⟨tu, u1, u2⟩ := hu.ex
  refine ⟨_, pe_slice ((sl_list.or sl_tupA).or sl_str) a1 l1 u1, fun m h H ρ σ QV Q rh re hg k => a2 m h H ρ σ _ _ rh re hg fun m1 H1 h1 r x p1 q1 => l2 m1 h1 H1 ρ σ _ _ p1.rh (re.mono p1.ev) q1 fun m2 H2 h2 lo e2 r2 q2 => u2 m2 h2 H2 ρ σ _ _ r2 (re.mono (p1.ev.trans e2)) q2 fun m3 H3 h3 hi e3 r3 q3 => ?_⟩
  have e13 := e2.trans e3
  have rr := p1.rr.mono e13
  have e03 := p1.ev.trans e13
  split at q3
  · cases RelT.str_inv rr
    exact .inr ⟨_, rfl, q3.1, k m3 H3 h3 _ _ ((Pst.val r3 .str).from_ e03 r3) q3.2⟩
  · rename_i xs
    obtain ⟨p, ys, rfl, s, r⟩ := RelT.tup_raw rr
    refine .inl (.inr ⟨p, ys, rfl, .of s, fun e => ?_, fun _ q hq => k m3 _ h3 _ _ ((Pst.tup r3 hq (r.cutv lo hi)).from_ e03 r3) q3⟩)
    rw [← r.len] at e
    rw [full_cut e] at q3
    exact k m3 H3 h3 _ _ ((Pst.val r3 (.tup s r.len r.at_)).from_ e03 r3) q3
  · rename_i xs
    obtain ⟨p, ys, rfl, s, r⟩ := RelT.rol_inv rr
    exact .inl (.inl ⟨p, ys, rfl, s.sq, fun q hq => k m3 _ h3 _ _ ((Pst.lst r3 hq (r.cutv lo hi)).from_ e03 r3) q3⟩)
  · split at q3
    · rename_i xs hx
      obtain ⟨p, ys, rfl, h2, r⟩ := lstOf_ok r3 rr hx
      exact .inl (.inl ⟨p, ys, rfl, .of h2, fun q hq => k m3 _ h3 _ _ ((Pst.lst r3 hq (r.cutv lo hi)).from_ e03 r3) q3⟩)
    · exact q3.elim
/-! ### len, list, tuple, sum -/
def guLen : GU := fun x h Q => match x with
  | .val (.str z) => z.length ≤ sizeLine ∧ Q (.val (.int (z.length : Int))) h
  | x => match seqOf h x with
    | some xs => Q (.val (.int (xs.length : Int))) h
    | none => False
theorem mc_len : MC1 X (.builtin "len") guLen := by
  refine ⟨_, call_len, fun m h H x rx QV Q rh r1 q k => ?_⟩
  unfold guLen at q
  split at q
  · cases RelT.str_inv r1
    exact ⟨_, _, rfl, ⟨q.1, rfl⟩, k m H h _ _ (.val rh .int) q.2⟩
  · split at q
    · rename_i xs hx
      obtain ⟨p, ys, rfl, h2, r⟩ := seqOf_ok rh r1 hx
      rw [r.len] at q
      rcases h2 with h2 | h2
      · exact ⟨_, _, rfl, .inl ⟨ys, h2, rfl⟩, k m H h _ _ (.val rh .int) q⟩
      · exact ⟨_, _, rfl, .inr ⟨ys, h2, rfl⟩, k m H h _ _ (.val rh .int) q⟩
    · exact q.elim
def guList : GU := fun x h Q => match seqOf h x with
  | some xs => Q (.new (.lst xs)) h
  | none => False
theorem mc_list : MC1 X (.type "list") guList := by
  refine ⟨_, call_list_of, fun m h H x rx QV Q rh r1 q k => ?_⟩
  unfold guList at q
  split at q
  · rename_i xs hx
    obtain ⟨p, ys, rfl, h2, r⟩ := seqOf_ok rh r1 hx
    exact ⟨p, ys, rfl, h2, fun l hl => k m _ h _ _ (.lst rh hl r) q⟩
  · exact q.elim
def isFt : R → Bool
  | .val (.ftp _) => true
  | _ => false
def guTuple : GU := fun x h Q => match seqOf h x with
  | some xs => isFt x = false ∧ Q (.val (.tup xs)) h
  | none => False
theorem mc_tuple : MC1 X (.type "tuple") guTuple := by
  refine ⟨_, call_tuple_of, fun m h H x rx QV Q rh r1 q k => ?_⟩
  unfold guTuple at q
  split at q
  · rename_i xs hx
    obtain ⟨p, ys, rfl, h2, r⟩ := seqOf_raw rh r1 hx (fun zs e => by rw [e] at q; exact Bool.noConfusion q.1)
    rcases h2 with h2 | h2
    · exact ⟨p, ys, rfl, .inl ⟨h2, fun l hl => k m _ h _ _ (.tup rh hl r) q.2⟩⟩
    · exact ⟨p, ys, rfl, .inr ⟨.of h2, k m H h _ _ (.val rh (.tup h2 r.len r.at_)) q.2⟩⟩
  · exact q.elim
/-- all whole numbers -/
def intsOf : List VV → Option (List Int)
  | [] => some []
  | .int i :: xs => (intsOf xs).map (i :: ·)
  | _ => none
theorem intsOf_map : ∀ ns : List Int, intsOf (ns.map VV.int) = some ns
  | [] => rfl
  | n :: ns => by rw [List.map_cons, intsOf, intsOf_map ns]; rfl
theorem intsOf_eq : ∀ {xs : List VV} {ns : List Int}, intsOf xs = some ns → xs = ns.map VV.int
  | [], ns, e => by cases e; rfl
  | .int i :: xs, ns, e => by
    unfold intsOf at e
    cases q : intsOf xs with
    | none => rw [q] at e; cases e
    | some ms => rw [q] at e; cases e; rw [intsOf_eq q]; rfl
  | .non :: _, _, e => by cases e
  | .bl _ :: _, _, e => by cases e
  | .str _ :: _, _, e => by cases e
  | .tup _ :: _, _, e => by cases e
  | .rol _ :: _, _, e => by cases e
  | .ftp _ :: _, _, e => by cases e
  | .ref _ :: _, _, e => by cases e
def lintsOf (h : VH) (r : R) : Option (List Int) := (lstOf h r).bind intsOf
theorem lintsOf_ok {r : R} {x : V} {ns : List Int} (rh : RH K m h H) (rr : RelR K m H r x) (e : lintsOf h r = some ns) : ∃ p, x = .ref p ∧ H p = some (.lst (ns.map V.int)) := by
  unfold lintsOf at e
  cases q : lstOf h r with
  | none => rw [q] at e; cases e
  | some xs =>
    rw [q] at e
    obtain ⟨p, ys, rfl, h2, h3⟩ := lstOf_ok rh rr q
    rw [intsOf_eq e] at h3
    exact ⟨p, rfl, by rw [h2, h3.ints]⟩
def guSum : GU := fun x h Q => match lintsOf h x with
  | some ns => Q (.val (.int ns.sum)) h
  | none => False
theorem mc_sum (hc : X.calm = true := by rfl) : MC1 X (.builtin "sum") guSum := by
  refine ⟨_, cr_sum hc, fun m h H x rx QV Q rh r1 q k => ?_⟩
  unfold guSum at q
  split at q
  · rename_i ns hx
    obtain ⟨p, rfl, h2⟩ := lintsOf_ok rh r1 hx
    exact ⟨p, ns, rfl, .of h2, k m H h _ _ (.val rh .int) q⟩
  · exact q.elim
/-- the greatest, the least of a list -/
def mxL : List Int → Int
  | [] => 0
  | x :: xs => xs.foldl max x
def mnL : List Int → Int
  | [] => 0
  | x :: xs => xs.foldl min x
theorem foldl_max_ge : ∀ (xs : List Int) (x : Int), x ≤ xs.foldl max x ∧ ∀ y ∈ xs, y ≤ xs.foldl max x
  | [], x => ⟨Int.le_refl _, fun _ h => by simp at h⟩
  | z :: zs, x => by
    obtain ⟨a, b⟩ := foldl_max_ge zs (max x z)
    refine ⟨by simp only [List.foldl_cons]; omega, fun y hy => ?_⟩
    rcases List.mem_cons.mp hy with rfl | hy
    · simp only [List.foldl_cons]; omega
    · exact b y hy
theorem foldl_max_mem : ∀ (xs : List Int) (x : Int), xs.foldl max x = x ∨ xs.foldl max x ∈ xs
  | [], x => .inl rfl
  | z :: zs, x => by
    simp only [List.foldl_cons]
    rcases foldl_max_mem zs (max x z) with e | e
    · rw [e]
      by_cases c : x ≤ z
      · right; rw [Int.max_eq_right c]; simp
      · left; omega
    · right; simp [e]
theorem foldl_min_le : ∀ (xs : List Int) (x : Int), xs.foldl min x ≤ x ∧ ∀ y ∈ xs, xs.foldl min x ≤ y
  | [], x => ⟨Int.le_refl _, fun _ h => by simp at h⟩
  | z :: zs, x => by
    obtain ⟨a, b⟩ := foldl_min_le zs (min x z)
    refine ⟨by simp only [List.foldl_cons]; omega, fun y hy => ?_⟩
    rcases List.mem_cons.mp hy with rfl | hy
    · simp only [List.foldl_cons]; omega
    · exact b y hy
theorem foldl_min_mem : ∀ (xs : List Int) (x : Int), xs.foldl min x = x ∨ xs.foldl min x ∈ xs
  | [], x => .inl rfl
  | z :: zs, x => by
    simp only [List.foldl_cons]
    rcases foldl_min_mem zs (min x z) with e | e
    · rw [e]
      by_cases c : x ≤ z
      · left; omega
      · right; rw [Int.min_eq_right (by omega)]; simp
    · right; simp [e]
theorem mxL_ge {ns : List Int} {y : Int} (h : y ∈ ns) : y ≤ mxL ns := by
  cases ns with
  | nil => simp at h
  | cons x xs =>
    rcases List.mem_cons.mp h with rfl | h
    · exact (foldl_max_ge xs y).1
    · exact (foldl_max_ge xs x).2 y h
theorem mxL_mem {ns : List Int} (h : 0 < ns.length) : mxL ns ∈ ns := by
  cases ns with
  | nil => simp at h
  | cons x xs => rcases foldl_max_mem xs x with e | e <;> simp [mxL, e]
theorem mnL_le {ns : List Int} {y : Int} (h : y ∈ ns) : mnL ns ≤ y := by
  cases ns with
  | nil => simp at h
  | cons x xs =>
    rcases List.mem_cons.mp h with rfl | h
    · exact (foldl_min_le xs y).1
    · exact (foldl_min_le xs x).2 y h
theorem mnL_mem {ns : List Int} (h : 0 < ns.length) : mnL ns ∈ ns := by
  cases ns with
  | nil => simp at h
  | cons x xs => rcases foldl_min_mem xs x with e | e <;> simp [mnL, e]
def guMax : GU := fun x h Q => match lintsOf h x with
  | some ns => 0 < ns.length ∧ Q (.val (.int (mxL ns))) h
  | none => False
def guMin : GU := fun x h Q => match lintsOf h x with
  | some ns => 0 < ns.length ∧ Q (.val (.int (mnL ns))) h
  | none => False
theorem mc_max (hc : X.calm = true := by rfl) : MC1 X (.builtin "max") guMax := by
  refine ⟨_, cr_max hc, fun m h H x rx QV Q rh r1 q k => ?_⟩
  unfold guMax at q
  split at q
  · rename_i ns hx
    obtain ⟨p, rfl, h2⟩ := lintsOf_ok rh r1 hx
    refine ⟨p, ns, rfl, .of h2, q.1, fun y hy hm => ?_⟩
    have e : y = mxL ns := Int.le_antisymm (mxL_ge hy) (hm _ (mxL_mem q.1))
    subst e
    exact k m H h _ _ (.val rh .int) q.2
  · exact q.elim
theorem mc_min (hc : X.calm = true := by rfl) : MC1 X (.builtin "min") guMin := by
  refine ⟨_, cr_min hc, fun m h H x rx QV Q rh r1 q k => ?_⟩
  unfold guMin at q
  split at q
  · rename_i ns hx
    obtain ⟨p, rfl, h2⟩ := lintsOf_ok rh r1 hx
    refine ⟨p, ns, rfl, .of h2, q.1, fun y hy hm => ?_⟩
    have e : y = mnL ns := Int.le_antisymm (hm _ (mnL_mem q.1)) (mnL_le hy)
    subst e
    exact k m H h _ _ (.val rh .int) q.2
  · exact q.elim
def gcI2 (f : Int → Int → Int) : GC := fun vs h Q => match vs with
  | [.int i, .int j] => Q (.val (.int (f i j))) h
  | _ => False
theorem rels2 {v w : VV} {xs : List V} (r : Rels K m H [v, w] xs) : ∃ x y, xs = [x, y] ∧ RelT K m H v x ∧ RelT K m H w y := by
  match xs, r with
  | [x, y], r => exact ⟨x, y, rfl, r.at_ 0 v x rfl rfl, r.at_ 1 w y rfl rfl⟩
  | [], r => have := r.len; simp at this
  | [_], r => have := r.len; simp at this
  | _ :: _ :: _ :: _, r => have := r.len; simp at this
theorem mc_min2 (hc : X.calm = true := by rfl) : MC X (.builtin "min") (gcI2 min) := by
  refine ⟨_, call_min2 hc, fun m h H xs vs QV Q rh r q k => ?_⟩
  unfold gcI2 at q
  split at q
  · rename_i i j
    obtain ⟨x, y, rfl, r1, r2⟩ := rels2 r
    cases r1.int_inv
    cases r2.int_inv
    refine ⟨i, j, rfl, ?_⟩
    have e : (if j < i then j else i) = min i j := by split <;> omega
    rw [e]
    exact k m H h _ _ (.val rh .int) q
  · exact q.elim
theorem mc_max2 (hc : X.calm = true := by rfl) : MC X (.builtin "max") (gcI2 max) := by
  refine ⟨_, call_max2 hc, fun m h H xs vs QV Q rh r q k => ?_⟩
  unfold gcI2 at q
  split at q
  · rename_i i j
    obtain ⟨x, y, rfl, r1, r2⟩ := rels2 r
    cases r1.int_inv
    cases r2.int_inv
    refine ⟨i, j, rfl, ?_⟩
    have e : (if j > i then j else i) = max i j := by split <;> omega
    rw [e]
    exact k m H h _ _ (.val rh .int) q
  · exact q.elim
/-! ### isinstance -/
def tyN : R → Option String
  | .val .non => some "NoneType"
  | .val (.bl _) => some "bool"
  | .val (.int _) => some "int"
  | .val (.str _) => some "str"
  | .val (.tup _) => some "tuple"
  | .val (.rol _) => some "list"
  | .val (.ftp _) => some "tuple"
  | .new (.lst _) => some "list"
  | .new (.dic _ _) => some "dict"
  | _ => none
def tyR (h : VH) : R → Option String
  | .val (.ref n) => match h[n]? with
    | some (.lst _) => some "list"
    | some (.dic _ _) => some "dict"
    | _ => none
  | r => tyN r
def subTy (s T : String) : Bool := s == T || (s == "bool" && T == "int")
def guIsi (T : String) : GU := fun x h Q => match tyR h x with
  | some s => Q (.val (.bl (subTy s T))) h
  | none => False
theorem tyR_ok {r : R} {x : V} {s : String} (rh : RH K m h H) (rr : RelR K m H r x) (e : tyR h r = some s) : TyX K H x (.type s) ∧ (s = "NoneType" ∨ s = "bool" ∨ s = "int" ∨ s = "str" ∨ s = "tuple" ∨ s = "list" ∨ s = "dict") := by
  unfold tyR at e
  split at e
  · split at e
    · rename_i n _ xs hn
      cases e
      obtain ⟨p, ys, rfl, _, h2, _⟩ := kept_lst rh hn rr
      exact ⟨.base (.lst h2), by simp⟩
    · rename_i n _ ks vs hn
      cases e
      obtain ⟨p, rfl, hp⟩ := RelT.ref_inv rr
      obtain ⟨kvs, h2, _⟩ := rh.obj n _ p hn hp
      exact ⟨.base (.dK h2), by simp⟩
    · cases e
  · unfold tyN at e
    split at e
    · cases e; cases RelT.non_inv rr; exact ⟨.base .non, by simp⟩
    · cases e; cases RelT.bl_inv rr; exact ⟨.base (.bl _), by simp⟩
    · cases e; cases RelT.int_inv rr; exact ⟨.base (.int _), by simp⟩
    · cases e; cases RelT.str_inv rr; exact ⟨.base (.str _), by simp⟩
    · cases e
      obtain ⟨p, ys, rfl, s, _⟩ := RelT.tup_inv rr
      rcases s with (s | ⟨ob, s⟩) | ⟨o, its, n, hk, hc, _⟩
      · exact ⟨.base (.tup s), by simp⟩
      · exact ⟨.fTuple s, by simp⟩
      · exact ⟨.kTuple hk hc, by simp⟩
    · cases e
      obtain ⟨p, ys, rfl, s, _⟩ := RelT.rol_inv rr
      rcases s with ⟨ob, s⟩ | (s | ⟨_, s⟩) | ⟨o, its, n, hk, hc, _⟩
      · exact ⟨.base (.frz s), by simp⟩
      · cases s
      · cases s
      · exact ⟨.kList hk hc, by simp⟩
    · cases e
      obtain ⟨p, ys, rfl, s, _⟩ := RelT.ftp_inv rr
      obtain ⟨ob, s, _⟩ := s
      exact ⟨.fTuple s, by simp⟩
    · cases e
      obtain ⟨p, rfl, _, ys, h2, _⟩ := rr
      exact ⟨.base (.lst h2), by simp⟩
    · cases e
      obtain ⟨p, rfl, _, kvs, h2, _⟩ := rr
      exact ⟨.base (.dK h2), by simp⟩
    · cases e
theorem misi {T : String} {x : Str} {p p2 : Pos} (hm : X.mg "isinstance" = none) (hmT : X.mg x = none) (hv : bootBuiltins x = some (.type T)) (ha : MX X a ga)
    (hk : ["NoneType", "bool", "int", "str", "tuple", "list", "dict"].all (fun s => kitB s T == some (subTy s T)) = true := by decide +kernel)
    (hg : Gl X "isinstance" := by rfl) (hgT : Gl X x := by rfl) (hn : x ≠ "__name__" := by decide) (hdb : (x == ("__debug__" : Str)) = false := by decide)
    (hs : starEach [a, .Name x p2] X.env = (false, eval a X.env) :: starEach [.Name x p2] X.env := by rfl) (hs1 : starEach [.Name x p2] X.env = [(false, eval (.Name x p2) X.env)] := by rfl) (hs2 : (backTo pos (starEach [.Name x p2] X.env)).any (·.1) = false := by rfl) :
    MX X (.Call (.Name "isinstance" p) [a, .Name x p2] [] pos) (gU (guIsi T) ga) := by
  obtain ⟨t, a1, a2⟩ := ha.ex
  have hT : PE X (.Name x p2) (tC (.ty T)) := pe_bltn hgT hmT hv rfl hn hdb
  refine ⟨_, pe_callB call_isi hg hm (by decide +kernel) (pa_cons a1 (pa_cons hT pa_nil hs1) hs) (by decide) (by decide) hs hs2, fun m h H ρ σ QV Q rh re hg k => a2 m h H ρ σ _ _ rh re hg fun m1 H1 h1 r x p q => ?_⟩
  unfold guIsi at q
  split at q
  · rename_i s e
    obtain ⟨t1, t2⟩ := tyR_ok p.rh p.rr e
    refine ⟨x, .ty T, .type s, .type T, subTy s T, rfl, .ty T, t1, kit_ty ?_, k m1 H1 h1 _ _ ((Pst.val p.rh .bl).from_ p.ev p.rh) q⟩
    have hk' := List.all_eq_true.mp hk s (by rcases t2 with r | r | r | r | r | r | r <;> subst r <;> simp)
    simpa using hk'
  · exact q.elim
/-! ### a list is changed -/
def gApp (ga gb : GE) : GE := fun ρ h Q => ga ρ h fun r h1 => match r with
  | .val (.ref n) => (∃ xs, h1[n]? = some (.lst xs)) ∧ gb ρ h1 fun s h2 => put s h2 fun v h3 => match h3[n]? with
    | some (.lst xs) => xs.length < sizeLine ∧ Q (.val .non) (h3.set n (.lst (xs ++ [v])))
    | _ => False
  | _ => False
theorem mapp {apos cpos : Pos} (ha : MX X a ga) (hb : MX X b gb) (h1 : attributeBase a "append" X.env (eval a X.env) = eval a X.env := by rfl)
    (h2 : (((backTo cpos (starEach [b] X.env)).all (fun x => !x.1) && (backToKw cpos (keywordEach [] X.env)).all (fun x => x.1.isSome)) && decide (([b].length + ([] : List Keyword).length + if ([] : List Keyword).isEmpty = true then 0 else 1) < 30)) = true := by rfl)
    (h3 : (apos.endLine == cpos.line) = true := by rfl) (hs : starEach [b] X.env = [(false, eval b X.env)] := by rfl) : MX X (.Call (.Attribute a "append" apos) [b] [] cpos) (gApp ga gb) := by
  obtain ⟨t, a1, a2⟩ := ha.ex
  obtain ⟨u, b1, b2⟩ := hb.ex
  refine ⟨_, pe_bm PySem.F.plainAttrs_list PySem.F.slot_list_append PySem.F.type_list_append mt_append a1 (pa_cons b1 pa_nil hs) h1 h2 h3 hs rfl, fun m h H ρ σ QV Q rh re hg k => a2 m h H ρ σ _ _ rh re hg fun m1 H1 h1 r x p q => ?_⟩
  split at q
  · rename_i n
    obtain ⟨⟨xs0, h0⟩, q⟩ := q
    obtain ⟨pa, ys0, rfl, hp0, h20, _⟩ := kept_lst p.rh h0 p.rr
    refine ⟨.inl ⟨rfl, ys0, .of h20⟩, b2 m1 h1 H1 ρ σ _ _ p.rh (re.mono p.ev) q fun m2 H2 h2 s y p2 q2 => put_ok p2 q2 fun m3 h3 v e3 r3 t3 pre q3 => ?_⟩
    split at q3
    · rename_i xs hn
      have hp3 := e3.pre _ _ hp0
      obtain ⟨ys, z1, z2⟩ := r3.obj n _ pa hn hp3
      obtain ⟨e4, r4⟩ := rh_setlst (xs ++ [v]) (ys ++ [y]) r3 hn hp3 (z2.append (Rels.nil.cons t3))
      refine ⟨pa, ys, y, rfl, rfl, z1, by rw [← z2.len]; exact q3.1, k m3 _ _ (.val .non) .non ⟨(p.ev.trans e3).trans e4, r4, RelT.non, fun _ _ z => (nomatch z)⟩ q3.2⟩
    · exact q3.elim
  · exact q.elim
/-- xs[i] = e, xs a kept list -/
def gSetI (gv ga gi : GE) : GS := fun D ρ h => gv ρ h fun r h1 => put r h1 fun v h2 => ga ρ h2 fun s h3 => gi ρ h3 fun t h4 => match s, t with
  | .val (.ref n), .val (.int i) => match h4[n]? with
    | some (.lst xs) => match ixN xs.length i with
      | some j => D.nx ρ (h4.set n (.lst (xs.set j v)))
      | none => False
    | _ => False
  | _, _ => False
theorem msseti {pv : Pos} (hv : MX X c gc) (ha : MX X a ga) (hb : MX X b gb) (hset : ∀ v, assign (.Subscript a b pv) X.env v = (do
      let ov ← holding [v] (eval a X.env)
      let iv ← holding [v, ov] (eval b X.env)
      standAt pv
      holding [v, ov, iv] (setItem ov iv v)
      release [v, ov, iv] []) := by intro _; rfl)
    (hs : swapsWithSole [.Subscript a b pv] c pos.line X.env = pure false := by rfl) (hw : swappedStores [.Subscript a b pv] c X.env = pure none := by rfl)
    (h1 : (assignEach [.Subscript a b pv] X.env).map (·.2) = [assign (.Subscript a b pv) X.env] := by rfl) : MS X (.Assign [.Subscript a b pv] c pos) (gSetI gc ga gb) := by
  obtain ⟨t, a1, a2⟩ := ha.ex
  obtain ⟨u, b1, b2⟩ := hb.ex
  obtain ⟨w, c1, c2⟩ := hv.ex
  refine ⟨_, ps_asg c1 (pg_sub a1 b1 set_list hset) hs hw h1, fun m h H ρ σ D E rh re hg k => c2 m h H ρ σ _ _ rh re hg fun m1 H1 h1 r x p1 q1 => put_ok p1 q1 fun m2 h2 v e2 r2 t2 pre q2 => ?_⟩
  refine a2 m2 h2 H1 ρ σ _ _ r2 (re.mono e2) q2 fun m3 H3 h3 s y p3 q3 => b2 m3 h3 H3 ρ σ _ _ p3.rh ((re.mono e2).mono p3.ev) q3 fun m4 H4 h4 i z p4 q4 => ?_
  split at q4
  · rename_i n i
    split at q4
    · rename_i xs hn
      split at q4
      · rename_i j hj
        have rr := RelT.mono p4.ev p3.rr
        obtain ⟨pa, ys, rfl, hp, z1, z2⟩ := kept_lst p4.rh hn rr
        cases RelT.int_inv p4.rr
        have tv := (t2.mono p3.ev).mono p4.ev
        obtain ⟨e5, r5⟩ := rh_setlst (xs.set j v) (ys.set j x) p4.rh hn hp (z2.set tv j)
        have e05 := ((e2.trans p3.ev).trans p4.ev).trans e5
        exact ⟨pa, ys, i, j, rfl, rfl, z1, by rw [← z2.len]; exact hj, k.nx m4 _ _ ρ σ e05 r5 (re.mono e05) q4⟩
      · exact q4.elim
    · exact q4.elim
  · exact q4.elim
end
end VL

set_option autoImplicit false
namespace VL
open PySem L2
open AutoSeq1 (wpAny_loadPart')
/-! ### enumerate over a list or a tuple -/
/-- an iterator's own object, just made -/
def enumObj (it : Addr) : Obj := { cls := .type "enumerate", data := .fields #[.none, .bool false, .ref it, rawInt 0, .none, .none] }
set_option maxHeartbeats 1000000 in
theorem enum_new1 {v : Value} {o : Obj} {G : Heap → Prop} (B : Begins v o G) :
    Meets (Builtin.«enumerate.__new__» ⟨[.type "enumerate", v], []⟩) (fun _ R s => G s.heap ∧ R (.ok (.ret (.ref (s.heap.push o).objs.size))) { s with heap := (s.heap.push o).push (enumObj s.heap.objs.size) }) :=
  .of_wp fun prog w A R s hh => by
    obtain ⟨hp, gg, dd, tt, oo⟩ := s
    obtain ⟨hG, hR⟩ := hh
    have e0 := sub_enumerate
    have q0 : ∀ {A' : Around} {E : Value → Shared → Prop} {Q : Value → Shared → Prop}, Q (.ref hp.objs.size) ⟨hp.push o, gg, dd, tt, oo⟩ → wpAny (model prog w) A' (pyIter v) Q E ⟨hp, gg, dd, tt, oo⟩ :=
      fun q => B.iter prog w _ _ ⟨hp, gg, dd, tt, oo⟩ _ hG q
    wp_walk using q0
    refine wpAny_stack_any fun _ => wpAny_pure ?_
    split
    · rename_i c _ _ _ _ _
      cases (c == Value.type "enumerate") <;> (wp_walk using q0; exact ⟨_, rfl, hR⟩)
    · wp_walk using q0
      exact ⟨_, rfl, hR⟩
theorem enum_call1 {prog : Program} {w : World} {A : Around} {E : Value → Shared → Prop} {s : Shared} {v : Value} {o : Obj} {G : Heap → Prop} {Q : Value → Shared → Prop} (B : Begins v o G) (hG : G s.heap)
    (k : ∀ h', IsEnum h' (s.heap.objs.size + 1) s.heap.objs.size 0 .none → h'.get? s.heap.objs.size = some o → h'.objs.size = s.heap.objs.size + 2 → (∀ b u, s.heap.get? b = some u → h'.get? b = some u) → Q (.ref (s.heap.objs.size + 1)) { s with heap := h' }) :
    wpAny (model prog w) A (call (.type "enumerate") [v]) Q E s := by
  refine callType_new F.called_enumerate (by decide) (F.typeCall_enumerate_1 _) (F.newCall_enumerate_1 _) (fun obj => F.args_object_init_2 obj _) F.entry_enumerate_new (enum_new1 B) ⟨hG, ?_⟩
  have z1 : (s.heap.push o).objs.size = s.heap.objs.size + 1 := Heap.size_push ..
  have z2 : IsEnum ((s.heap.push o).push (enumObj s.heap.objs.size)) (s.heap.objs.size + 1) s.heap.objs.size 0 .none := by
    have q := Heap.get?_push_size (s.heap.push o) (o := enumObj s.heap.objs.size) rfl
    rw [z1] at q; exact q
  show _ ∧ _
  rw [z1]
  exact ⟨⟨_, z2, rfl⟩, k _ z2 (Heap.get?_push_of_some _ (Heap.get?_push_size _ B.free)) (by rw [Heap.size_push, z1]) fun b u x => Heap.get?_push_of_some _ (Heap.get?_push_of_some _ x)⟩
/-- the turns of enumerate over a tuple -/
def ItU (K : PySem.W.Frag) (a : Addr) : It :=
  ⟨fun i H => ∃ (xs : List V) (x : V), SqT K H a xs ∧ xs[i]? = some x,
   fun i H v H' => ∃ T x, v = .ref T ∧ H T = none ∧ H' = upd H T (.tup [.int (i : Nat), x]) ∧ ∀ xs, SqT K H a xs → xs[i]? = some x,
   fun i H => ∃ xs : List V, SqT K H a xs ∧ xs.length ≤ i⟩
theorem turn_enumU {P : Program} {w : World} {K : PySem.W.Frag} {elts : List Expr} {kk : Nat} {tpos : Pos} (a e it : Addr) :
    Turn P w K (.Tuple elts kk tpos) (ItU K a) [e, it] e (fun i h => (∃ old, IsEnum h e it ((i : Nat) : Int) old) ∧ h.IsTupleIter it a i ∧ e ≠ it ∧ a ≠ e ∧ a ≠ it) where
  mem := by simp
  obj := fun i h st b hb => by
    obtain ⟨⟨old, he⟩, ⟨o, ho, _, hd⟩, _⟩ := st
    rcases (show b = e ∨ b = it by simpa using hb) with rfl | rfl
    · exact ⟨_, he, fun v q => nomatch q⟩
    · exact ⟨o, ho, fun v q => by rw [hd] at q; cases q⟩
  keep := fun i h h' st k => by
    obtain ⟨⟨old, he⟩, ⟨o, ho, r⟩, ne⟩ := st
    exact ⟨⟨old, k e (by simp) _ he⟩, ⟨o, k it (by simp) o ho, r⟩, ne⟩
  item := by
    intro X hP hw hK hc i pins s σ H E I hf st hg
    subst hP hw hK
    obtain ⟨⟨old, he⟩, hit, hne, hae, hai⟩ := st
    obtain ⟨xs, x, hq, hx⟩ := hg
    obtain ⟨its, rv, p, hz⟩ := I.tuple hq
    obtain ⟨u, hu, ru⟩ := rv.get hx
    have pT : s.heap.IsTuple a its.toArray := p
    have hel : e < s.heap.objs.size := Heap.lt_size he
    have hil : it < s.heap.objs.size := by obtain ⟨_, q, _⟩ := hit; exact Heap.lt_size q
    have hlt : i < its.toArray.size := by
      have := (List.getElem?_eq_some_iff.mp hu).1
      simpa using this
    have hh : X.A.in1.handled = none := I.ok.hd hc
    refine wpAny_pyNext_enum_itemD (Draws.tuple hh it a hai its.toArray) he ⟨hit, pT⟩ hlt hne (by simp [hne, Ne.symm hae]) fun y h' tk hy ho st' hT hsz hk => ?_
    have ey : y = u := by
      have : its.toArray[i]? = some u := by simpa using hu
      rw [this] at hy; exact (Option.some.inj hy).symm
    subst ey
    refine ⟨_, rfl, wpAny_letOwnedTupleGo_enum (s := { s with heap := h', toks := tk + 1 }) ho fun h2 he2 sb => ?_⟩
    have hT2 : h2.get? s.heap.objs.size = some { cls := .type "tuple", data := .seq #[.int i tk, y] } := (sb.2 _ (Nat.ne_of_gt hel)).trans hT
    have nw : ObjOk X.prog X.w (upd H s.heap.objs.size (.tup [.int (i : Nat), x])) h2 s.heap.objs.size (.tup [.int (i : Nat), x]) :=
      ⟨by show 2 ≤ sizeLine; decide, [.int i tk, y], .cons ⟨_, rfl⟩ (.cons ru .nil), ⟨_, hT2, rfl, _, rfl⟩⟩
    have J : Inv X pins σ (upd H s.heap.objs.size (.tup [.int (i : Nat), x])) { s with heap := h2, toks := tk + 1 } := by
      refine I.turnedNew (ch := [e, it]) (fun b ob hb q => ?_) hf (Nat.le_refl _) nw
      have b1 : b ≠ e := fun z => hb (by simp [z])
      have b2 : b ≠ it := fun z => hb (by simp [z])
      exact (sb.2 b b1).trans (hk b ob b1 b2 q)
    refine ⟨.ref s.heap.objs.size, _, J, rfl, ⟨_, x, rfl, I.hok.fresh (Nat.le_refl _), rfl, fun ys hy => by rw [I.tuple_inj hy hq]; exact hx⟩, ⟨⟨y, ?_⟩, ?_, hne, hae, hai⟩, fun b hb => ?_⟩
    · rw [show ((i + 1 : Nat) : Int) = (i : Int) + 1 by omega]; exact he2
    · obtain ⟨⟨o, ho', r⟩, _⟩ := st'
      exact ⟨o, (sb.2 it (Ne.symm hne)).trans ho', r⟩
    · have hb' : b < s.heap.objs.size := by
        rcases (show b = e ∨ b = it by simpa using hb) with rfl | rfl
        · exact hel
        · exact hil
      rw [upd_ne (Nat.ne_of_lt hb')]
      exact (hf b hb).1
  done := by
    intro X hP hw hK hc i pins s σ H E I hf st hg
    subst hP hw hK
    obtain ⟨⟨old, he⟩, hit, hne, hae, hai⟩ := st
    obtain ⟨xs, hq, hx⟩ := hg
    obtain ⟨its, rv, p, hz⟩ := I.tuple hq
    have pT : s.heap.IsTuple a its.toArray := p
    obtain ⟨f0, f1, f2, f3, f4, f5⟩ := hf it (by simp)
    have hl := rv.length
    obtain ⟨o, ho, hc', hd⟩ := id hit
    have D : Draws X.prog X.w X.A.in1 it [it, a] i (fun j v => False) (fun j h => j = i ∧ h.IsTupleIter it a i ∧ h.IsTuple a its.toArray) := by
      refine ⟨fun j h st => ?_, fun j h h' st hk => ?_, fun j s Q E hj st _ => ?_, fun s Q E st hE => ?_⟩
      · obtain ⟨_, ⟨o, q, _⟩, _⟩ := st; exact ⟨o, q⟩
      · exact ⟨st.1, st.2.1.at fun o e => hk it (by simp) o e, st.2.2.at fun o e => hk a (by simp) o e⟩
      · exact absurd st.1 (Nat.ne_of_lt hj)
      · exact wpAny_nextOf_tuple_end (I.ok.hd hc) st.2.1 st.2.2 (by simp; omega) hE
    exact wpAny_pyNext_enum_endD D he ⟨rfl, hit, pT⟩ fun h' eb => ⟨rfl, I.turned (t' := s.toks) (fun b o hb q => eb b o hb q) f0 f1 f3 f4 f5⟩
  self := fun A i s Q E st h => by
    obtain ⟨⟨_, he⟩, _⟩ := st
    exact wpAny_pyIter_enum he h
def iEn (K : PySem.W.Frag) (te : TE) : TI := fun σ H R => te σ H fun x H1 => ∃ a, x = .ref a ∧ (((∃ xs, SqL K H1 a xs) ∧ R (Ite K a) H1) ∨ ((∃ xs, SqT K H1 a xs) ∧ R (ItU K a) H1))
theorem pi_en {X : Cx} {e : Expr} {te : TE} {p pos tpos : Pos} {elts : List Expr} {kk : Nat} (hg : Gl X "enumerate") (hm : X.mg "enumerate" = none) (ha : PE X e te) (hs : starEach [e] X.env = [(false, eval e X.env)]) :
    PI X (.Tuple elts kk tpos) (.Call (.Name "enumerate" p) [e] [] pos) (iEn X.K te) := ⟨fun pins s σ H R I hw => by
  refine PyProof.Rows.Call_ (ld_blt I hg hm PyProof.Rows.boot_enumerate (PyProof.Rows.callWith_type1 (thn ((pa_cons ha pa_nil hs).run pos pins s σ H (fun vs H1 => ∃ a, vs = [.ref a] ∧ (((∃ xs, SqL X.K H1 a xs) ∧ R (Ite X.K a) H1) ∨ ((∃ xs, SqT X.K H1 a xs) ∧ R (ItU X.K a) H1))) I ?_) ?_) hs rfl))
  · show te σ H _
    refine cast (congrArg (te σ H) (funext fun x => funext fun H1 => propext ⟨fun q => ?_, fun q => ?_⟩)) hw
    · obtain ⟨a, rfl, q⟩ := q; exact ⟨a, rfl, q⟩
    · obtain ⟨a, e1, q⟩ := q; cases e1; exact ⟨a, rfl, q⟩
  · rintro us t ⟨vs, G, J, rv, a, rfl, q⟩
    cases rv with
    | cons r rr =>
      cases rr
      cases r
      have nw : ∀ z ∈ [t.heap.objs.size + 1, t.heap.objs.size], FpOk X pins G z := fun z hz => by
        have hl : t.heap.objs.size ≤ z := by
          rcases (show z = t.heap.objs.size + 1 ∨ z = t.heap.objs.size by simpa using hz) with h | h <;> omega
        exact J.fpOk hl (J.hok.fresh hl)
      rcases q with ⟨⟨xs, hx⟩, q⟩ | ⟨⟨xs, hx⟩, q⟩
      · obtain ⟨is, _, pl, _⟩ := J.list hx
        refine enum_call1 (begins_list a is.toArray) pl.isList fun h' he ho hsz hk => wpAny_pyIter_enum he ?_
        exact ⟨t.heap.objs.size + 1, _, _, _, G, rfl, J.kept (t' := t.toks) hk, turn_enum a (t.heap.objs.size + 1) t.heap.objs.size, ⟨⟨.none, he⟩, ⟨_, ho, rfl, rfl⟩, Nat.succ_ne_self _⟩, nw, q⟩
      · obtain ⟨is, _, pl, _⟩ := J.tuple hx
        have pT : t.heap.IsTuple a is.toArray := pl
        have al : a < t.heap.objs.size := by obtain ⟨o, q, _⟩ := pT; exact Heap.lt_size q
        refine enum_call1 (begins_tuple a is.toArray) pT fun h' he ho hsz hk => wpAny_pyIter_enum he ?_
        exact ⟨t.heap.objs.size + 1, _, _, _, G, rfl, J.kept (t' := t.toks) hk, turn_enumU a (t.heap.objs.size + 1) t.heap.objs.size, ⟨⟨.none, he⟩, ⟨_, ho, rfl, rfl⟩, Nat.succ_ne_self _, Nat.ne_of_lt (Nat.lt_succ_of_lt al), Nat.ne_of_lt al⟩, nw, q⟩⟩
end VL

set_option autoImplicit false
namespace VL
open PySem L2
section
variable {K : PySem.W.Frag} {m m' : List Addr} {H H' : Hp} {h h' : VH} {ρ : Env} {σ : St} {X : Cx} {a b c : Expr} {ga gb gc : GE} {gt : GT} {pos : Pos} {gs gs2 : GS}
/-! ### enumerate -/
def enumV (xs : List VV) : List VV := xs.mapIdx fun (i : Nat) x => VV.tup [.int (i : Int), x]
theorem enumV_get {xs : List VV} {i : Nat} {v : VV} (e : (enumV xs)[i]? = some v) : ∃ x, xs[i]? = some x ∧ v = .tup [.int (i : Int), x] := by
  unfold enumV at e
  rw [List.getElem?_mapIdx] at e
  cases q : xs[i]? with
  | none => rw [q] at e; cases e
  | some x => rw [q] at e; cases e; exact ⟨x, rfl, rfl⟩
theorem enumV_len (xs : List VV) : (enumV xs).length = xs.length := by simp [enumV]
theorem pair_new {T : Addr} {i : Int} {x : V} {v : VV} {Hh : Hp} {m2 : List Addr} {h2 : VH} (hT : Hh T = none) (r : RH K m2 h2 Hh) (rv : RelT K m2 Hh v x) :
    Ev K m2 m2 Hh (upd Hh T (.tup [.int i, x])) ∧ RH K m2 h2 (upd Hh T (.tup [.int i, x])) ∧ RelT K m2 (upd Hh T (.tup [.int i, x])) (.tup [.int i, v]) (.ref T) := by
  have p := Pst.tup (K := K) r hT (Rels.nil.cons rv |>.cons (x := .int i) (y := .int i) .int)
  exact ⟨p.ev, p.rh, p.rr⟩
theorem walkV_enumL {p : Addr} {xs : List VV} {st : VH → Prop} (hst : ∀ m2 h2 H2, Ev K m m2 H H2 → RH K m2 h2 H2 → st h2 → ∃ ys, SqL K H2 p ys ∧ Rels K m2 H2 xs ys) : WalkV K m H (Ite K p) (enumV xs) st := by
  refine ⟨fun Hh => ∃ ys, SqL K Hh p ys ∧ ys.length = xs.length, fun i Hh v Hg => ∃ T x, v = .ref T ∧ Hh T = none ∧ Hg = upd Hh T (.tup [.int (i : Nat), x]) ∧ ∀ ys, SqL K Hh p ys → ys[i]? = some x, ⟨fun i Hh hi ⟨ys, s, l⟩ => ?_, fun Hh ⟨ys, s, l⟩ => ?_, fun i Hh x Hg _ _ y => y⟩, fun m2 h2 H2 e r s => ?_, fun i Hh x Hg m2 h2 y e r s v hv => ?_⟩
  · rw [enumV_len] at hi
    exact ⟨ys, ys[i], s, List.getElem?_eq_getElem (by omega)⟩
  · exact ⟨ys, s, by rw [enumV_len]; omega⟩
  · obtain ⟨ys, q1, q2⟩ := hst m2 h2 H2 e r s
    exact ⟨ys, q1, q2.len.symm⟩
  · obtain ⟨T, z, rfl, hT, rfl, y⟩ := y
    obtain ⟨ys, q1, q2⟩ := hst m2 h2 _ e r s
    obtain ⟨w, hw, rfl⟩ := enumV_get hv
    exact pair_new hT r (q2.at_ i w z hw (y ys q1))
theorem walkV_enumT {p : Addr} {xs : List VV} {ys : List V} (s : H p = some (.tup ys)) (r : Rels K m H xs ys) : WalkV K m H (ItU K p) (enumV xs) (fun _ => True) := by
  refine ⟨fun Hh => SqT K Hh p ys, fun i Hh v Hg => ∃ T x, v = .ref T ∧ Hh T = none ∧ Hg = upd Hh T (.tup [.int (i : Nat), x]) ∧ ys[i]? = some x, ⟨fun i Hh hi q => ?_, fun Hh q => ?_, fun i Hh x Hg _ q y => ?_⟩, fun m2 h2 H2 e _ _ => .of (e.tk _ _ s), fun i Hh x Hg m2 h2 y e r2 _ v hv => ?_⟩
  · rw [enumV_len] at hi
    exact ⟨ys, ys[i]'(by rw [← r.len]; exact hi), q, List.getElem?_eq_getElem _⟩
  · exact ⟨ys, q, by rw [enumV_len, ← r.len]; exact Nat.le_refl _⟩
  · obtain ⟨T, z, h1, h2, h3, h4⟩ := y
    exact ⟨T, z, h1, h2, h3, h4 ys q⟩
  · obtain ⟨T, z, rfl, hT, rfl, y⟩ := y
    obtain ⟨w, hw, rfl⟩ := enumV_get hv
    exact pair_new hT r2 ((r.at_ i w z hw y).mono e)
theorem walkV_enumF {p : Addr} {xs : List VV} {ys : List V} (s : FtT H p ys) (r : Rels K m H xs ys) : WalkV K m H (ItU K p) (enumV xs) (fun _ => True) := by
  refine ⟨fun Hh => SqT K Hh p ys, fun i Hh v Hg => ∃ T x, v = .ref T ∧ Hh T = none ∧ Hg = upd Hh T (.tup [.int (i : Nat), x]) ∧ ys[i]? = some x, ⟨fun i Hh hi q => ?_, fun Hh q => ?_, fun i Hh x Hg _ q y => ?_⟩, fun m2 h2 H2 e _ _ => (e.ft _ _ s).sq, fun i Hh x Hg m2 h2 y e r2 _ v hv => ?_⟩
  · rw [enumV_len] at hi
    exact ⟨ys, ys[i]'(by rw [← r.len]; exact hi), q, List.getElem?_eq_getElem _⟩
  · exact ⟨ys, q, by rw [enumV_len, ← r.len]; exact Nat.le_refl _⟩
  · obtain ⟨T, z, h1, h2, h3, h4⟩ := y
    exact ⟨T, z, h1, h2, h3, h4 ys q⟩
  · obtain ⟨T, z, rfl, hT, rfl, y⟩ := y
    obtain ⟨w, hw, rfl⟩ := enumV_get hv
    exact pair_new hT r2 ((r.at_ i w z hw y).mono e)
def giE (ga : GE) : GI := fun ρ h Q => ga ρ h fun r h1 => match seqOf h1 r with
  | some xs => Q (enumV xs) (stOf r xs) h1
  | none => False
theorem mie {p pos tpos : Pos} {elts : List Expr} {kk : Nat} (hm : X.mg "enumerate" = none) (ha : MX X a ga) (hg : Gl X "enumerate" := by rfl) (hs : starEach [a] X.env = [(false, eval a X.env)] := by rfl) :
    MI X (.Tuple elts kk tpos) (.Call (.Name "enumerate" p) [a] [] pos) (giE ga) := by
  obtain ⟨t, a1, a2⟩ := ha.ex
  refine ⟨_, pi_en hg hm a1 hs, fun m h H ρ σ QV R rh re hg k => a2 m h H ρ σ _ _ rh re hg fun m1 H1 h1 r x p q => ?_⟩
  split at q
  · rename_i xs e
    unfold seqOf at e
    split at e
    · split at e
      · rename_i n _ ys hn
        cases e
        obtain ⟨pa, ys, rfl, hp, h2, h3⟩ := kept_lst p.rh hn p.rr
        refine ⟨pa, rfl, .inl ⟨⟨_, .of h2⟩, k m1 H1 h1 _ _ _ p.ev p.rh (walkV_enumL fun m2 h2 H2 e2 r2 s2 => ?_) q⟩⟩
        obtain ⟨zs, z1, z2⟩ := r2.obj n _ pa s2 (e2.pre _ _ hp)
        exact ⟨zs, .of z1, z2⟩
      · cases e
    · cases e
      obtain ⟨pa, rfl, nm, ys, h2, h3⟩ := p.rr
      exact ⟨pa, rfl, .inl ⟨⟨_, .of h2⟩, k m1 H1 h1 _ _ _ p.ev p.rh (walkV_enumL fun m2 h2' H2 e2 r2 _ => ⟨ys, .of (e2.fr _ _ h2 nm), h3.mono e2⟩) q⟩⟩
    · cases e
      obtain ⟨pa, ys, rfl, h2, h3⟩ := RelT.tup_raw p.rr
      exact ⟨pa, rfl, .inr ⟨⟨_, .of h2⟩, k m1 H1 h1 _ _ _ p.ev p.rh (walkV_enumT h2 h3) q⟩⟩
    · cases e
      obtain ⟨pa, ys, rfl, h2, h3⟩ := RelT.rol_inv p.rr
      exact ⟨pa, rfl, .inl ⟨⟨_, h2.sq⟩, k m1 H1 h1 _ _ _ p.ev p.rh (walkV_enumL fun m2 h2' H2 e2 r2 _ => ⟨ys, (e2.sk _ _ h2).sq, h3.mono e2⟩) q⟩⟩
    · cases e
      obtain ⟨pa, ys, rfl, h2, h3⟩ := RelT.ftp_inv p.rr
      exact ⟨pa, rfl, .inr ⟨⟨_, h2.sq⟩, k m1 H1 h1 _ _ _ p.ev p.rh (walkV_enumF h2 h3) q⟩⟩
    · cases e
  · exact q.elim
/-! ### a text, sign by sign -/
def signsV (z : Str) : List VV := z.cps.toList.map fun c => VV.str ⟨#[c]⟩
def giStr (ga : GE) : GI := fun ρ h Q => ga ρ h fun r h1 => match r with
  | .val (.str z) => Q (signsV z) (fun _ => True) h1
  | _ => False
theorem mistr {tg : Expr} (ha : MX X a ga) : MI X tg a (giStr ga) := by
  obtain ⟨t, a1, a2⟩ := ha.ex
  refine ⟨_, pi_str a1, fun m h H ρ σ QV R rh re hg k => a2 m h H ρ σ _ _ rh re hg fun m1 H1 h1 r x p q => ?_⟩
  split at q
  · rename_i z
    cases RelT.str_inv p.rr
    refine ⟨z, rfl, k m1 H1 h1 _ _ _ p.ev p.rh ⟨fun _ => True, fun i Hh v Hg => Hg = Hh ∧ ∃ c, z.cps[i]? = some c ∧ v = .str ⟨#[c]⟩, ?_, fun _ _ _ _ _ _ => trivial, fun i Hh x Hg m2 h2 y e r2 _ v hv => ?_⟩ q⟩
    · have e : (signsV z).length = z.cps.size := by simp [signsV]
      rw [e]; exact walk_str
    · obtain ⟨rfl, c, hc, rfl⟩ := y
      have : v = .str ⟨#[c]⟩ := by
        unfold signsV at hv
        rw [List.getElem?_map, Array.getElem?_toList, hc] at hv
        exact (Option.some.inj hv).symm
      subst this
      exact ⟨Ev.refl, r2, .str⟩
  · exact q.elim
/-! ### sum of a tuple -/
theorem sum_tup {its : List Value} {l : Addr} {ns : List Int} {prog : Program} {w : World} {A : Around} {E : Value → Shared → Prop} {s : Shared} {Q : Value → Shared → Prop} (hh : A.handled = none) (hl : s.heap.IsTuple l its.toArray) (hi : Vals (ns.map V.int) its)
    (k : ∀ h' tk t', (∀ b o, s.heap.get? b = some o → h'.get? b = some o) → Q (.int ns.sum t') { s with heap := h', toks := tk }) : wpAny (model prog w) A (call (.builtin "sum") [.ref l]) Q E s := by
  have al : l < s.heap.objs.size := by obtain ⟨o, q, _⟩ := hl; exact Heap.lt_size q
  have hlen : its.length = ns.length := by have := hi.length; simpa using this.symm
  refine call_sum_walkG (wpAny_pyIter_tuple hl ⟨s.heap.objs.size, _, _, its.toArray.size, _, _, fun i => ns.getD i 0, rfl, Walks.tuple (A := A.in1) hh s.heap.objs.size l (Nat.ne_of_lt al) its.toArray, ⟨⟨_, Heap.get?_push_size _ rfl, rfl, rfl⟩, hl.push _⟩, fun b hb => ?_, fun i v hv => ?_, fun h' tk t' hk => ?_⟩)
  · show b < (s.heap.push _).objs.size
    rw [Heap.size_push]
    rcases (show b = s.heap.objs.size ∨ b = l by simpa using hb) with e | e
    · rw [e]; exact Nat.lt_succ_self _
    · rw [e]; exact Nat.lt_succ_of_lt al
  · have hv' : its[i]? = some v := by simpa using hv
    have il := (List.getElem?_eq_some_iff.mp hv').1
    obtain ⟨u, hu, r⟩ := hi.get (i := i) (x := .int (ns[i]'(by omega))) (by simp [List.getElem?_map, List.getElem?_eq_getElem (show i < ns.length by omega)])
    rw [hv'] at hu
    cases hu
    obtain ⟨t, rfl⟩ := r
    exact ⟨t, by show _ = Value.int (ns.getD i 0) t; rw [List.getD_eq_getElem?_getD, List.getElem?_eq_getElem (show i < ns.length by omega)]; rfl⟩
  · rw [PyProof.Rows.preSum_getD, List.take_of_length_le (by simp [hlen])]
    refine k h' tk t' fun b o e => hk b o (fun hb => ?_) (Heap.get?_push_of_some _ e)
    have eb : b = s.heap.objs.size := by simpa using hb
    exact absurd (Heap.lt_size e) (by rw [eb]; exact Nat.lt_irrefl _)
theorem cr_sumT (hc : X.calm = true) : CallR X (.builtin "sum") (fun vs H Q => ∃ (a : Addr) (ns : List Int), vs = [V.ref a] ∧ SqT X.K H a (ns.map V.int) ∧ Q (.int ns.sum) H) := by
  intro pins s σ H vs us Q I r hw
  obtain ⟨p, ns, rfl, hs, q⟩ := hw
  obtain ⟨its, rv, hl, _⟩ := I.tuple hs
  rw [Vals.ref1 r]
  exact sum_tup (I.ok.hd hc) hl rv fun h' tk t' hk => ⟨.int _, H, I.kept hk, ⟨_, rfl⟩, q⟩
theorem CallR.or {f : Value} {r r' : List V → Hp → VK → Prop} (h1 : CallR X f r) (h2 : CallR X f r') : CallR X f (fun xs H Q => r xs H Q ∨ r' xs H Q) := fun pins s σ H xs us Q I rv hw => by
  rcases hw with hw | hw
  · exact h1 pins s σ H xs us Q I rv hw
  · exact h2 pins s σ H xs us Q I rv hw
def sintsOf (h : VH) (r : R) : Option (List Int) := (seqOf h r).bind intsOf
def guSumS : GU := fun x h Q => match sintsOf h x with
  | some ns => Q (.val (.int ns.sum)) h
  | none => False
theorem mc_sumS (hc : X.calm = true := by rfl) : MC1 X (.builtin "sum") guSumS := by
  refine ⟨_, CallR.or (cr_sum hc) (cr_sumT hc), fun m h H x rx QV Q rh r1 q k => ?_⟩
  unfold guSumS sintsOf at q
  split at q
  · rename_i ns hx
    cases q2 : seqOf h rx with
    | none => rw [q2] at hx; cases hx
    | some xs =>
      rw [q2] at hx
      obtain ⟨p, ys, rfl, h2, h3⟩ := seqOf_ok rh r1 q2
      rw [intsOf_eq hx] at h3
      rw [h3.ints] at h2
      rcases h2 with h2 | h2
      · exact .inl ⟨p, ns, rfl, h2, k m H h _ _ (.val rh .int) q⟩
      · exact .inr ⟨p, ns, rfl, h2, k m H h _ _ (.val rh .int) q⟩
  · exact q.elim
end
end VL

set_option autoImplicit false
namespace VL
open PySem L2
section
variable {K : PySem.W.Frag} {m m' : List Addr} {H H' : Hp} {h h' : VH} {ρ : Env} {σ : St} {X : Cx} {a b c : Expr} {ga gb gc : GE} {gt gt1 : GT} {pos : Pos}
/-! ### comprehensions of two clauses: the list that is filled is kept at the number n0 -/
def FgtH (n : Nat) (h h' : VH) : Prop := h' = h ∨ ∃ k, n ≤ k ∧ h' = h.take k ∧ closedH k h'
def lcI (n0 n1 : Nat) (st : VH → Prop) (g : GG) (gt : GT) (ge : GE) (ρw : Env) (k : VH → Prop) : List VV → VH → Prop
  | [], h => st h ∧ k h
  | x :: xs, h => st h ∧ g x ρw fun ρ1 => ∃ M : Option VV → VH → Prop, (gt ρ1 h fun b h1 => if b = true then ge ρ1 h1 fun r h2 => put r h2 fun v h3 => M (some v) h3 else M none h1) ∧
      (∀ v h3, M (some v) h3 → ∃ acc, h3[n0]? = some (.lst acc) ∧ acc.length < sizeLine ∧ ∃ h4, FgtH n1 (h3.set n0 (.lst (acc ++ [v]))) h4 ∧ lcI n0 n1 st g gt ge ρw k xs h4) ∧ ∀ h1, M none h1 → lcI n0 n1 st g gt ge ρw k xs h1
def lcO (n0 : Nat) (st : VH → Prop) (g : GG) (gt : GT) (gi1 : GI) (g1 : GG) (gt1 : GT) (ge : GE) (ρw : Env) (vs1 : List Nat) (Q : R → VH → Prop) : List VV → VH → Prop
  | [], h => st h ∧ fin n0 Q (.val (.ref n0)) h
  | x :: xs, h => st h ∧ g x ρw fun ρ1 => ∃ M : VH → Prop, (gt ρ1 h fun b h1 => if b = true then gi1 ρ1 h1 fun ys st1 h2 => lcI n0 h2.length st1 g1 gt1 ge (wipeV ρ1 vs1) M ys h2 else M h1) ∧
      ∀ h3, M h3 → ∃ h4, FgtH (n0 + 1) h3 h4 ∧ lcO n0 st g gt gi1 g1 gt1 ge ρw vs1 Q xs h4
def gLc2 (gi : GI) (g : GG) (gt : GT) (gi1 : GI) (g1 : GG) (gt1 : GT) (ge : GE) (vs vs1 : List Nat) : GE := fun ρ h Q => gi ρ h fun xs st h1 => lcO h1.length (fun h => st h) g gt gi1 g1 gt1 ge (wipeV ρ vs) vs1 Q xs (h1 ++ [.lst []])
theorem lcO_st {n0 : Nat} {st : VH → Prop} {g g1 : GG} {gi1 : GI} {ge : GE} {ρw : Env} {vs1 : List Nat} {Q : R → VH → Prop} {xs : List VV} (q : lcO n0 st g gt gi1 g1 gt1 ge ρw vs1 Q xs h) : st h := by
  cases xs with
  | nil => exact q.1
  | cons => exact q.1
theorem lcI_st {n0 n1 : Nat} {st : VH → Prop} {g : GG} {ge : GE} {ρw : Env} {k : VH → Prop} {xs : List VV} (q : lcI n0 n1 st g gt ge ρw k xs h) : st h := by
  cases xs with
  | nil => exact q.1
  | cons => exact q.1
theorem fgtH_ok {n : Nat} {m0 : List Addr} {H0 : Hp} (f : FgtH n h h') (hn : m0.length ≤ n) (e : Ev K m0 m H0 H) (r : RH K m h H) : ∃ m', Ev K m0 m' H0 H ∧ RH K m' h' H ∧ ∀ (j : Nat) (a : Addr), j < n → m[j]? = some a → m'[j]? = some a := by
  rcases f with rfl | ⟨k, hk, rfl, hc⟩
  · exact ⟨m, e, r, fun _ _ _ q => q⟩
  · exact ⟨m.take k, e.cut (by omega), r.cut hc, fun j a hj q => by rw [List.getElem?_take, if_pos (by omega)]; exact q⟩
theorem rz_lc2 {wi wi1 : TI} {gi gi1 : GI} {tg tg1 : TG} {g g1 : GG} {js js1 vs vs1 : List Nat} {tt tt1 : TT} {te : TE} (hi : RzI K wi gi) (hg : RzG K tg g js) (ht : RzT K tt gt) (hi1 : RzI K wi1 gi1) (hg1 : RzG K tg1 g1 js1) (ht1 : RzT K tt1 gt1) (he : RzE K te ga)
    (hj : ∀ j ∈ js, j ∈ vs) (hj1 : ∀ j ∈ js1, j ∈ vs1) : RzE K (tLc2 wi tg tt wi1 tg1 tt1 te vs vs1) (gLc2 gi g gt gi1 g1 gt1 ga vs vs1) := fun m h H ρ σ QV Q rh re hq k => by
  refine hi m h H ρ σ _ _ rh re hq fun m1 H1 h1 J xs st e1 r1 w q => ?_
  obtain ⟨G, Y, wk, hG, hY⟩ := w.ex
  intro D hD
  have l1 : m1.length = h1.length := r1.len
  -- the start: D is kept
  have p0 : Pst K m1 H1 m1 (upd H1 D (.lst [])) h1 (.new (.lst [])) (.ref D) := .lst r1 hD .nil
  obtain ⟨mD, eD, rD, sD⟩ : ∃ mD, Ev K m1 mD H1 (upd H1 D (.lst [])) ∧ RH K mD (h1 ++ [.lst []]) (upd H1 D (.lst [])) ∧ mD[h1.length]? = some D := by
    refine put_ok (QV := fun v h2 => v = .ref h1.length ∧ h2 = h1 ++ [.lst []]) p0 ⟨rfl, rfl⟩ fun m2 h2 v e r t _ ⟨ev, eh⟩ => ?_
    subst ev eh
    cases t with
    | ref q => exact ⟨m2, e, r, q⟩
  refine ⟨fun i n H' => n = xs.length - i ∧ i ≤ xs.length ∧ ∃ m' h', Ev K m1 m' H1 H' ∧ RH K m' h' H' ∧ m'[h1.length]? = some D ∧ lcO h1.length st g gt gi1 g1 gt1 ga (wipeV ρ vs) vs1 QV (xs.drop i) h',
    ⟨xs.length, by simp, Nat.zero_le _, mD, _, eD, rD, sD, q⟩, ?_⟩
  rintro i n H' ⟨rfl, hi', m', h', e', r', s', q'⟩
  have stG := hG m' h' H' e' r' (lcO_st q')
  by_cases hlt : i < xs.length
  · refine .inr ⟨wk.goes i H' hlt stG, fun H2 => ∃ m' h', Ev K m1 m' H1 H2 ∧ RH K m' h' H2 ∧ m'[h1.length]? = some D ∧ lcO h1.length st g gt gi1 g1 gt1 ga (wipeV ρ vs) vs1 QV (xs.drop (i + 1)) h', fun H2 z => ⟨xs.length - (i + 1), by omega, rfl, hlt, z⟩, fun x H2 y => ?_⟩
    have hx : xs[i]? = some xs[i] := List.getElem?_eq_getElem hlt
    obtain ⟨y1, y2, y3⟩ := hY i H' x H2 m' h' (wk.yields i H' x H2 hlt stG y) e' r' (lcO_st q') _ hx
    rw [List.drop_eq_getElem_cons hlt] at q'
    have rw1 : RE K m1 H1 (wipeV ρ vs) (L2.wipe σ vs) := (re.mono e1).wipe vs
    have e2 := e'.trans y1
    refine hg m' h' H2 _ _ xs[i] x _ _ y2 (rw1.mono e2) y3 q'.2 fun ρ2 σ2 re2 o2 qq => ⟨wipe_only o2 hj, ?_⟩
    obtain ⟨M, q2, hM⟩ := qq
    refine ht m' h' H2 ρ2 σ2 _ _ y2 re2 q2 fun m3 H3 h3 b e3 r3 q3 => ?_
    have e13 := e2.trans e3
    have s3 := e3.pre _ _ s'
    cases b with
    | false =>
      obtain ⟨h6, f, q6⟩ := hM _ q3
      obtain ⟨m6, e6, r6, pr⟩ := fgtH_ok f (by rw [l1]; exact Nat.le_succ _) e13 r3
      exact ⟨m6, h6, e6, r6, pr _ _ (Nat.lt_succ_self _) s3, q6⟩
    | true =>
      refine hi1 m3 h3 H3 ρ2 σ2 _ _ r3 (re2.mono e3) q3 fun m4 H4 h4 J1 zs st1 e4 r4 w1 q4 => ?_
      obtain ⟨G1, Y1, wk1, hG1, hY1⟩ := w1.ex
      have s4 := e4.pre _ _ s3
      have n04 : h1.length < h4.length := by
        have := (List.getElem?_eq_some_iff.mp s4).1
        rw [r4.len] at this; exact this
      refine ⟨fun j n H5 => n = zs.length - j ∧ j ≤ zs.length ∧ ∃ m' h', Ev K m4 m' H4 H5 ∧ RH K m' h' H5 ∧ m'[h1.length]? = some D ∧ lcI h1.length h4.length st1 g1 gt1 ga (wipeV ρ2 vs1) M (zs.drop j) h',
        ⟨zs.length, by simp, Nat.zero_le _, m4, h4, Ev.refl, r4, s4, q4⟩, ?_⟩
      rintro j n H5 ⟨rfl, hj', m5, h5, e5, r5, s5, q5⟩
      have stG1 := hG1 m5 h5 H5 e5 r5 (lcI_st q5)
      by_cases hl1 : j < zs.length
      · refine .inr ⟨wk1.goes j H5 hl1 stG1, fun H6 => ∃ m' h', Ev K m4 m' H4 H6 ∧ RH K m' h' H6 ∧ m'[h1.length]? = some D ∧ lcI h1.length h4.length st1 g1 gt1 ga (wipeV ρ2 vs1) M (zs.drop (j + 1)) h', fun H6 z => ⟨zs.length - (j + 1), by omega, rfl, hl1, z⟩, fun x H6 y => ?_⟩
        have hz : zs[j]? = some zs[j] := List.getElem?_eq_getElem hl1
        obtain ⟨y1, y2, y3⟩ := hY1 j H5 x H6 m5 h5 (wk1.yields j H5 x H6 hl1 stG1 y) e5 r5 (lcI_st q5) _ hz
        rw [List.drop_eq_getElem_cons hl1] at q5
        have rw2 : RE K m3 H3 (wipeV ρ2 vs1) (L2.wipe σ2 vs1) := (re2.mono e3).wipe vs1
        have e6 := e5.trans y1
        refine hg1 m5 h5 H6 _ _ zs[j] x _ _ y2 (rw2.mono (e4.trans e6)) y3 q5.2 fun ρ3 σ3 re3 o3 qq => ⟨wipe_only o3 hj1, ?_⟩
        obtain ⟨M1, q6, hMs, hMn⟩ := qq
        refine ht1 m5 h5 H6 ρ3 σ3 _ _ y2 re3 q6 fun m7 H7 h7 b e7 r7 q7 => ?_
        have e47 := e6.trans e7
        have s7 := e7.pre _ _ s5
        cases b with
        | false => exact ⟨m7, h7, e47, r7, s7, hMn _ q7⟩
        | true =>
          refine he m7 h7 H7 ρ3 σ3 _ _ r7 (re3.mono e7) q7 fun m8 H8 h8 r z p q8 => put_ok p q8 fun m9 h9 v e9 r9 t9 pre q9 => ?_
          obtain ⟨acc, a1, a2, h10, f, q10⟩ := hMs _ _ q9
          have s9 := e9.pre _ _ s7
          obtain ⟨ys, z1, z2⟩ := r9.obj _ _ D a1 s9
          obtain ⟨eW, rW⟩ := rh_setlst (acc ++ [v]) (ys ++ [z]) r9 a1 s9 (z2.append (Rels.nil.cons t9))
          obtain ⟨m11, e11, r11, pr⟩ := fgtH_ok f (by rw [r4.len]; exact Nat.le_refl _) ((e47.trans e9).trans eW) rW
          exact ⟨ys, z1, by rw [← z2.len]; exact a2, m11, h10, e11, r11, pr _ _ n04 s9, q10⟩
      · have ej : j = zs.length := by omega
        subst ej
        rw [List.drop_length] at q5
        obtain ⟨h6, f, q6⟩ := hM _ q5.2
        obtain ⟨m6, e6, r6, pr⟩ := fgtH_ok f (by rw [l1]; exact Nat.le_succ _) ((e13.trans e4).trans e5) r5
        exact .inl ⟨wk1.stops H5 stG1, m6, h6, e6, r6, pr _ _ (Nat.lt_succ_self _) s5, q6⟩
  · have ei : i = xs.length := by omega
    subst ei
    rw [List.drop_length] at q'
    obtain ⟨r2, h2, f, q2⟩ := q'.2
    have pD : Pst K m1 H1 m' H' h' (.val (.ref h1.length)) (.ref D) := ⟨e', r', .ref s', fun _ _ z => nomatch z⟩
    obtain ⟨m2, p2⟩ := fin_ok f l1 pD
    exact .inl ⟨wk.stops H' stG, k m2 H' h2 r2 (.ref D) (p2.from_ e1 r1) q2⟩
theorem unifI {scope : Scope} {tg iter : Expr} {gi : GI} (he : ∀ s H C cl fp, MI (bx X scope s H C cl fp) tg iter gi) : ∃ t, (∀ s H C cl fp, PI (bx X scope s H C cl fp) tg iter t) ∧ RzI X.K t gi := by
  refine ⟨fun σ H R => ∀ s H0 C cl fp, ∃ t, (PI (bx X scope s H0 C cl fp) tg iter t ∧ RzI X.K t gi) ∧ t σ H R, fun s H C cl fp => ⟨fun pins s1 σ H1 R I hw => ?_⟩, fun m h H ρ σ QV R rh re hg k s H0 C cl fp => ?_⟩
  · obtain ⟨t, ⟨p, _⟩, q⟩ := hw s H C cl fp
    exact p.run pins s1 σ H1 R I q
  · obtain ⟨t, p, q⟩ := (he s H0 C cl fp).ex
    exact ⟨t, ⟨p, q⟩, q m h H ρ σ QV R rh re hg k⟩
theorem mlc2 {elt tg iter tg1 iter1 : Expr} {ifs ifs1 : List Expr} {scope : Scope} {own : List (Str × Nat)} {vs1 : List Nat} {gi gi1 : GI} {g g1 : GG} {js js1 : List Nat} (hN : X.N.Nodup) (hi : MI X tg iter gi) (ok : BlkOk X.N X.env.scope scope own)
    (hg : ∀ s H C cl fp, MG (bx X scope s H C cl fp) tg g js) (ht : ∀ s H C cl fp, MTs (bx X scope s H C cl fp) ifs gt)
    (hi1 : ∀ s H C cl fp, MI (bx X scope s H C cl fp) tg1 iter1 gi1) (hg1 : ∀ s H C cl fp, MG (bx X scope s H C cl fp) tg1 g1 js1) (ht1 : ∀ s H C cl fp, MTs (bx X scope s H C cl fp) ifs1 gt1) (he : ∀ s H C cl fp, MX (bx X scope s H C cl fp) elt ga)
    (hv : ∀ i ∈ vs1, i ∈ own.map (·.2) := by decide) (hj : ∀ j ∈ js, j ∈ own.map (·.2) := by decide) (hj1 : ∀ j ∈ js1, j ∈ vs1 := by decide) (hc : X.calm = true := by rfl) (hs : ∀ x, foldedSetIterable iter X.env x = pure x := by intro _; rfl) (hs1 : ∀ env x, foldedSetIterable iter1 env x = pure x := by intro _ _; rfl) :
    MX X (.ListComp elt [⟨tg, iter, ifs, 0⟩, ⟨tg1, iter1, ifs1, 0⟩] scope pos) (gLc2 gi g gt gi1 g1 gt1 ga (own.map (·.2)) vs1) := by
  obtain ⟨wi, i1, i2⟩ := hi.ex
  obtain ⟨tg', g1', g2⟩ := unifG hg
  obtain ⟨tt, t1, t2⟩ := unifT ht
  obtain ⟨wi', i1', i2'⟩ := unifI hi1
  obtain ⟨tg'', g1'', g2'⟩ := unifG hg1
  obtain ⟨tt', t1', t2'⟩ := unifT ht1
  obtain ⟨te, e1, e2⟩ := unifE he
  exact ⟨_, pe_lc2 hc hN i1 ok hv g1' t1 i1' g1'' t1' e1 hs hs1, rz_lc2 i2 g2 t2 i2' g2' t2' e2 hj hj1⟩
end
end VL

set_option autoImplicit false
namespace VL
open PySem L2
section
variable {K : PySem.W.Frag} {m m' : List Addr} {H H' : Hp} {h h' : VH} {ρ : Env} {σ : St} {X : Cx} {a b c : Expr} {ga gb gc : GE} {gt gt1 : GT} {pos : Pos}
/-! ### in -/
def flatVV : VV → Bool
  | .non => true
  | .bl _ => true
  | .int _ => true
  | .str _ => true
  | _ => false
def eqF : VV → VV → Bool
  | .non, .non => true
  | .bl a, .bl b => a == b
  | .bl a, .int b => (if a then 1 else 0) == b
  | .int a, .bl b => a == (if b then 1 else 0)
  | .int a, .int b => a == b
  | .str a, .str b => a == b
  | _, _ => false
theorem eqF_ok {v w : VV} {x y : V} (r : RelT K m H v x) (s : RelT K m H w y) (f1 : flatVV v = true) (f2 : flatVV w = true) : eqV x y = eqF v w := by
  cases v <;> first | (cases f1; done) | skip
  all_goals (cases r; cases w <;> first | (cases f2; done) | skip)
  all_goals (cases s; rfl)
theorem flat_ok {v : VV} {x : V} (r : RelT K m H v x) (f : flatVV v = true) : flatV x = true := by
  cases v <;> first | (cases f; done) | skip
  all_goals (cases r; rfl)
theorem any_ok {v : VV} {x : V} (r : RelT K m H v x) (f : flatVV v = true) : ∀ {xs : List VV} {ys : List V}, Rels K m H xs ys → xs.all flatVV = true → ys.all flatV = true ∧ inV x ys = xs.any fun z => eqF z v
  | [], ys, s, _ => by
    cases ys with
    | nil => exact ⟨rfl, rfl⟩
    | cons => have := s.len; simp at this
  | z :: zs, ys, s, g => by
    cases ys with
    | nil => have := s.len; simp at this
    | cons y ys =>
      rw [List.all_cons, Bool.and_eq_true] at g
      have r0 := s.at_ 0 z y (by simp) (by simp)
      obtain ⟨a1, a2⟩ := any_ok r f (xs := zs) (ys := ys) ⟨by have := s.len; simpa using this, fun i p q e1 e2 => s.at_ (i + 1) p q (by simpa using e1) (by simpa using e2)⟩ g.2
      refine ⟨by rw [List.all_cons, flat_ok r0 g.1, a1]; rfl, ?_⟩
      unfold inV at a2 ⊢
      rw [List.any_cons, List.any_cons, a2, eqF_ok r0 r g.1 f]
def inB (h : VH) (x y : R) : Option Bool := match y with
  | .val (.str t) => match x with
    | .val (.str s) => some (!(Builtin.Str.occurrences t s 0 t.length 1).isEmpty)
    | _ => none
  | .val (.tup xs) => match x with
    | .val v => if (flatVV v && xs.all flatVV) = true then some (xs.any fun z => eqF z v) else none
    | _ => none
  | y => match lstOf h y with
    | some _ => match dR h x, dR h y with
      | some d, some (.list ds) => some (ds.any fun z => PyData.eqv z d)
      | _, _ => none
    | none => none
def goIn : GO := fun x y h Q => match inB h x y with
  | some b => Q (.val (.bl b)) h
  | none => False
def goNotIn : GO := fun x y h Q => match inB h x y with
  | some b => Q (.val (.bl (!b))) h
  | none => False
theorem inB_ok {x y : R} {v w : V} {b : Bool} (rh : RH K m h H) (r1 : RelR K m H x v) (r2 : RelR K m H y w) (e : inB h x y = some b) :
    (∃ i j, v = .str i ∧ w = .str j ∧ b = !(Builtin.Str.occurrences j i 0 j.length 1).isEmpty) ∨
    (∃ p xs, w = .ref p ∧ SqT K H p xs ∧ flatV v = true ∧ xs.all flatV = true ∧ b = inV v xs) ∨
    ∃ d ds, Dp K H v d ∧ Dp K H w (.list ds) ∧ SeqAt.shaped d = true ∧ SeqAt.shaped (.list ds) = true ∧ b = ds.any fun z => PyData.eqv z d := by
  unfold inB at e
  split at e
  · split at e
    · cases e
      cases RelT.str_inv r1
      cases RelT.str_inv r2
      exact .inl ⟨_, _, rfl, rfl, rfl⟩
    · cases e
  · split at e
    · split at e
      · rename_i xs v' hf
        cases e
        rw [Bool.and_eq_true] at hf
        obtain ⟨p, ys, rfl, s, rs⟩ := RelT.tup_inv r2
        obtain ⟨a1, a2⟩ := any_ok r1 hf.1 rs hf.2
        exact .inr (.inl ⟨p, ys, rfl, s, flat_ok r1 hf.1, a1, a2.symm⟩)
      · cases e
    · cases e
  · split at e
    · split at e
      · rename_i d ds e1 e2
        cases e
        obtain ⟨a1, a2⟩ := dR_ok rh r1 e1
        obtain ⟨b1, b2⟩ := dR_ok rh r2 e2
        exact .inr (.inr ⟨d, ds, a1, b1, a2, b2, rfl⟩)
      · cases e
    · cases e
theorem mo_in (hu : X.A.units + 65 < cLine) : MO X (compareOp .In) goIn := by
  refine ⟨_, op_in_str.or (op_in_seq.or (op_inD hu)), fun m h H x y rx ry QV Q rh r1 r2 q k => ?_⟩
  unfold goIn at q
  split at q
  · rename_i b e
    have kk := k m H h _ _ (.val rh .bl) q
    rcases inB_ok rh r1 r2 e with ⟨i, j, rfl, rfl, rfl⟩ | ⟨p, xs, rfl, s, f1, f2, rfl⟩ | ⟨d, ds, a1, b1, a2, b2, rfl⟩
    · exact .inl ⟨i, j, rfl, rfl, kk⟩
    · exact .inr (.inl ⟨p, xs, rfl, .inr s, f1, f2, kk⟩)
    · exact .inr (.inr ⟨d, ds, a1, b1, a2, b2, kk⟩)
  · exact q.elim
theorem mo_notin (hu : X.A.units + 65 < cLine) : MO X (compareOp .NotIn) goNotIn := by
  refine ⟨_, op_notin_str.or (op_notIn_seq.or (op_notInD hu)), fun m h H x y rx ry QV Q rh r1 r2 q k => ?_⟩
  unfold goNotIn at q
  split at q
  · rename_i b e
    have kk := k m H h _ _ (.val rh .bl) q
    rcases inB_ok rh r1 r2 e with ⟨i, j, rfl, rfl, rfl⟩ | ⟨p, xs, rfl, s, f1, f2, rfl⟩ | ⟨d, ds, a1, b1, a2, b2, rfl⟩
    · exact .inl ⟨i, j, rfl, rfl, kk⟩
    · exact .inr (.inl ⟨p, xs, rfl, .inr s, f1, f2, kk⟩)
    · exact .inr (.inr ⟨d, ds, a1, b1, a2, b2, kk⟩)
  · exact q.elim
/-! ### all, any of a list of truths -/
def blsOf : List VV → Option (List Bool)
  | [] => some []
  | .bl i :: xs => (blsOf xs).map (i :: ·)
  | _ => none
theorem blsOf_map : ∀ ns : List Bool, blsOf (ns.map VV.bl) = some ns
  | [] => rfl
  | n :: ns => by rw [List.map_cons, blsOf, blsOf_map ns]; rfl
theorem blsOf_eq : ∀ {xs : List VV} {ns : List Bool}, blsOf xs = some ns → xs = ns.map VV.bl
  | [], ns, e => by cases e; rfl
  | .bl i :: xs, ns, e => by
    unfold blsOf at e
    cases q : blsOf xs with
    | none => rw [q] at e; cases e
    | some ms => rw [q] at e; cases e; rw [blsOf_eq q]; rfl
  | .non :: _, _, e => by cases e
  | .int _ :: _, _, e => by cases e
  | .str _ :: _, _, e => by cases e
  | .tup _ :: _, _, e => by cases e
  | .rol _ :: _, _, e => by cases e
  | .ftp _ :: _, _, e => by cases e
  | .ref _ :: _, _, e => by cases e
theorem Rels.bls : ∀ {ns : List Bool} {ys : List V}, Rels K m H (ns.map VV.bl) ys → ys = ns.map V.bl
  | [], ys, r => by
    cases ys with
    | nil => rfl
    | cons y ys => have := r.len; simp at this
  | n :: ns, ys, r => by
    cases ys with
    | nil => have := r.len; simp at this
    | cons y ys =>
      have h1 := (r.at_ 0 (.bl n) y (by simp) (by simp)).bl_inv
      have h2 := Rels.bls (ns := ns) (ys := ys) ⟨by have := r.len; simpa using this, fun i a b p q => r.at_ (i + 1) a b (by simpa using p) (by simpa using q)⟩
      rw [h1, h2]; rfl
def guBls (f : List Bool → Bool) : GU := fun x h Q => match (lstOf h x).bind blsOf with
  | some ns => Q (.val (.bl (f ns))) h
  | none => False
theorem bls_ok {r : R} {x : V} {ns : List Bool} (rh : RH K m h H) (rr : RelR K m H r x) (e : (lstOf h r).bind blsOf = some ns) : ∃ p, x = .ref p ∧ H p = some (.lst (ns.map V.bl)) := by
  cases q : lstOf h r with
  | none => rw [q] at e; cases e
  | some xs =>
    rw [q] at e
    obtain ⟨p, ys, rfl, h2, h3⟩ := lstOf_ok rh rr q
    rw [blsOf_eq e] at h3
    exact ⟨p, rfl, by rw [h2, h3.bls]⟩
theorem mc_all (hc : X.calm = true := by rfl) : MC1 X (.builtin "all") (guBls fun ns => ns.all id) := by
  refine ⟨_, cr_all hc, fun m h H x rx QV Q rh r1 q k => ?_⟩
  unfold guBls at q
  split at q
  · rename_i ns hx
    obtain ⟨p, rfl, h2⟩ := bls_ok rh r1 hx
    exact ⟨p, ns, rfl, .of h2, k m H h _ _ (.val rh .bl) q⟩
  · exact q.elim
theorem mc_any (hc : X.calm = true := by rfl) : MC1 X (.builtin "any") (guBls fun ns => ns.any id) := by
  refine ⟨_, cr_any hc, fun m h H x rx QV Q rh r1 q k => ?_⟩
  unfold guBls at q
  split at q
  · rename_i ns hx
    obtain ⟨p, rfl, h2⟩ := bls_ok rh r1 hx
    exact ⟨p, ns, rfl, .of h2, k m H h _ _ (.val rh .bl) q⟩
  · exact q.elim
/-! ### xs.index(y) -/
def gIdx (ga gb : GE) : GE := fun ρ h Q => ga ρ h fun r h1 => (∃ xs, seqOf h1 r = some xs ∧ lstOf h1 r = some xs) ∧ gb ρ h1 fun s h2 => put s h2 fun v h3 => match dR h3 r, dV 20 h3 v with
  | some (.list ds), some d => match ds.findIdx? (fun z => PyData.eqv z d) with
    | some j => Q (.val (.int (j : Nat))) h3
    | none => False
  | _, _ => False
theorem mindex {apos cpos : Pos} (hu : X.A.units + 65 < cLine) (ha : MX X a ga) (hb : MX X b gb) (h1 : attributeBase a "index" X.env (eval a X.env) = eval a X.env := by rfl)
    (h2 : (((backTo cpos (starEach [b] X.env)).all (fun x => !x.1) && (backToKw cpos (keywordEach [] X.env)).all (fun x => x.1.isSome)) && decide (([b].length + ([] : List Keyword).length + if ([] : List Keyword).isEmpty = true then 0 else 1) < 30)) = true := by rfl)
    (h3 : (apos.endLine == cpos.line) = true := by rfl) (hs : starEach [b] X.env = [(false, eval b X.env)] := by rfl) : MX X (.Call (.Attribute a "index" apos) [b] [] cpos) (gIdx ga gb) := by
  obtain ⟨t, a1, a2⟩ := ha.ex
  obtain ⟨u, b1, b2⟩ := hb.ex
  refine ⟨_, pe_bm PySem.F.plainAttrs_list PySem.F.slot_list_index PySem.F.type_list_index (mt_indexD hu) a1 (pa_cons b1 pa_nil hs) h1 h2 h3 hs rfl, fun m h H ρ σ QV Q rh re hg k => a2 m h H ρ σ _ _ rh re hg fun m1 H1 h1 r x p q => ?_⟩
  obtain ⟨⟨xs0, _, h0⟩, q⟩ := q
  obtain ⟨pa, ys0, rfl, hp0, _⟩ := lstOf_ok p.rh p.rr h0
  refine ⟨.inl ⟨rfl, ys0, .of hp0⟩, b2 m1 h1 H1 ρ σ _ _ p.rh (re.mono p.ev) q fun m2 H2 h2 s y p2 q2 => put_ok p2 q2 fun m3 h3 v e3 r3 t3 pre q3 => ?_⟩
  split at q3
  · rename_i ds d e1 e2
    split at q3
    · rename_i j hj
      obtain ⟨a1, a2⟩ := dR_ok r3 (p.rr.mono e3) e1
      obtain ⟨b1, b2⟩ := dR_ok (r := .val v) r3 t3 e2
      obtain ⟨j1, j2, j3⟩ := List.findIdx?_eq_some_iff_getElem.mp hj
      refine ⟨pa, y, d, ds, j, ds[j], rfl, rfl, a1, b1, a2, b2, List.getElem?_eq_getElem j1, j2, fun n z' hn hz => ?_, k m3 _ _ _ _ ((Pst.val r3 .int).from_ (p.ev.trans e3) r3) q3⟩
      obtain ⟨l1, rfl⟩ := List.getElem?_eq_some_iff.mp hz
      have := j3 n hn
      simpa using this
    · exact q3.elim
  · exact q3.elim
/-! ### a, b = x, y -/
def gPar (i j : Nat) (ga : GA) : GS := fun D ρ h => ga ρ h fun vs h1 => match vs with
  | [v, w] => D.nx ((ρ.set i (some v)).set j (some w)) h1
  | _ => False
theorem mspar (i j : Nat) {x y : Str} {px py pt : Pos} {kt k2 : Nat} {pt2 : Pos} {gr : GA} (hN : X.N.Nodup) (ha : MA X [a, b] gr) (hij : i ≠ j := by decide) (hc : X.calm = true := by rfl) (hi : X.N[i]? = some x := by rfl) (hj : X.N[j]? = some y := by rfl)
    (hx : X.env.scope.names.lookup x = some .local := by rfl) (hy : X.env.scope.names.lookup y = some .local := by rfl)
    (hw : swappedStores [.Tuple [.Name x px, .Name y py] kt pt] (.Tuple [a, b] k2 pt2) X.env = pure (some [x, y]) := by rfl)
    (hs : swapsWithSole [.Tuple [.Name x px, .Name y py] kt pt] (.Tuple [a, b] k2 pt2) pos.line X.env = pure false := by rfl) :
    MS X (.Assign [.Tuple [.Name x px, .Name y py] kt pt] (.Tuple [a, b] k2 pt2) pos) (gPar i j gr) := by
  obtain ⟨t, a1, a2⟩ := ha.ex
  refine ⟨_, ps_par hc hN hi hj hij hx hy a1 hw hs, fun m h H ρ σ D E rh re hg k => a2 m h H ρ σ _ _ rh re hg fun m1 H1 h1 vs xs e1 r1 t1 q => ?_⟩
  split at q
  · rename_i v w
    obtain ⟨y1, y2, rfl, u1, u2⟩ := rels2 t1
    exact ⟨y1, y2, rfl, k.nx m1 H1 h1 _ _ e1 r1 (((re.mono e1).set u1).set u2) q⟩
  · exact q.elim
end
/-! ### words for the derivations -/
theorem hu65 {k : Nat} {A : Around} (r : Room k A) : A.units + 65 < cLine := by
  have h1 := r.un
  have h2 : (65 : Nat) + 64 ≤ cLine := by decide
  omega
theorem gtlen_nil {vs : List VV} {ρ : Env} {Q : Env → Prop} {n : Nat} (hn : n = 0) (h : gtNil vs ρ Q) : vs.length = n := by rw [h.1, hn]; rfl
/-- what the law promises -/
def sLaw : GC := fun as h QV => ∃ ns : List Int, as = [.rol (ns.map .int)] ∧ h = [] ∧ ns.length ≤ 63 ∧ ∀ h', QV (.val (.bl true)) h'
theorem law_sp {K : PySem.W.Frag} {H : Hp} {a : Addr} {ns : List Int} {E : XK} (hl : ns.length ≤ 63) (hO : Only H) (hS : SqL K H a (ns.map V.int)) : spOf K 1 sLaw [.ref a] H (fun v _ => v = .bl true) E := by
  have sr : SqR K H a (ns.map V.int) := by
    rcases hS with (h | ⟨ob, h⟩) | h
    · rcases hO a with q | ⟨o, xs, q⟩ <;> (rw [q] at h; cases h)
    · exact .inl ⟨ob, h⟩
    · exact .inr (.inr h)
  refine ⟨[], [], [.rol (ns.map .int)], fun r _ => r = .val (.bl true), ⟨List.nodup_nil, rfl, fun n o a e _ => by simp at e⟩, Rels.nil.cons (.rol sr (by simp) fun i x y e1 e2 => ?_), rfl, ⟨ns, rfl, rfl, hl, fun _ => rfl⟩, fun m' H' h' r x p e => ?_⟩
  · rw [List.getElem?_map] at e1 e2
    cases q : ns[i]? with
    | none => rw [q] at e1; cases e1
    | some n => rw [q] at e1 e2; cases e1; cases e2; exact .int
  · subst e
    exact RelT.bl_inv p.rr
end VL

set_option autoImplicit false
namespace VL
open PySem L2
section
variable {K : PySem.W.Frag} {m m' : List Addr} {H H' : Hp} {h h' : VH} {ρ : Env} {σ : St} {X : Cx} {a b c : Expr} {ga gb gc : GE} {gt gt1 : GT} {pos : Pos}
def gListRange (ga : GE) : GE := fun ρ h Q => ga ρ h fun r h1 => match r with
  | .val (.int n) => RgOk 0 n ∧ Q (.new (.lst (rng 0 n.toNat))) h1
  | _ => False
theorem rels_rng (n : Int) : Rels K m H (rng 0 n.toNat) (rgV 0 n) := by
  have e : (n - 0).toNat = n.toNat := by omega
  unfold rng rgV
  rw [e]
  refine ⟨by simp, fun i x y e1 e2 => ?_⟩
  rw [List.getElem?_map] at e1 e2
  cases q : (List.range n.toNat)[i]? with
  | none => rw [q] at e1; cases e1
  | some j => rw [q] at e1 e2; cases e1; cases e2; exact .int
theorem mlistrange {p p2 pos2 : Pos} (hl : X.mg "list" = none) (hm : X.mg "range" = none) (ha : MX X a ga) (hg : Gl X "list" := by rfl) (hg2 : Gl X "range" := by rfl) (hc : X.calm = true := by rfl) (hs : starEach [a] X.env = [(false, eval a X.env)] := by rfl) : MX X (.Call (.Name "list" p) [.Call (.Name "range" p2) [a] [] pos2] [] pos) (gListRange ga) := by
  obtain ⟨t, a1, a2⟩ := ha.ex
  refine ⟨_, pe_listRg hc hg hl (prg_1 hg2 hm a1 hs), fun m h H ρ σ QV Q rh re hg k => a2 m h H ρ σ _ _ rh re hg fun m1 H1 h1 r x p q => ?_⟩
  split at q
  · rename_i n
    cases RelT.int_inv p.rr
    exact ⟨n, rfl, q.1, fun l hl => k m1 _ h1 _ _ ((Pst.lst p.rh hl (rels_rng n)).from_ p.ev p.rh) q.2⟩
  · exact q.elim
end
end VL

set_option autoImplicit false
namespace VL
open PySem L2
/-! ### steps -/
section
variable {ρ : Env} {h : VH} {Q : R → VH → Prop} {QT : Bool → VH → Prop} {QA : List VV → VH → Prop} {ga gb gc : GE} {go gp : GO} {gu : GU} {S : GC} {gr : GA} {g1 g2 : GS} {t u : GT} {N bk ct : Env → VH → Prop} {ex : XV} {rt : R → VH → Prop} {i j : Int} {x y : R} {v w : VV}
theorem t_seq (q : g1 ⟨fun ρ' h' => g2 ⟨N, rt, bk, ct, ex⟩ ρ' h', rt, bk, ct, ex⟩ ρ h) : gSeq g1 g2 ⟨N, rt, bk, ct, ex⟩ ρ h := ⟨_, q, fun _ _ z => z⟩
theorem t_seqSet {n : Nat} (q : gSet n ga ⟨fun ρ' h' => g2 ⟨N, rt, bk, ct, ex⟩ ρ' h', rt, bk, ct, ex⟩ ρ h) : gSeq (gSet n ga) g2 ⟨N, rt, bk, ct, ex⟩ ρ h := ⟨_, q, fun _ _ z => z⟩
theorem t_seqI {gx gy : GE} (q : gSetI ga gx gy ⟨fun ρ' h' => g2 ⟨N, rt, bk, ct, ex⟩ ρ' h', rt, bk, ct, ex⟩ ρ h) : gSeq (gSetI ga gx gy) g2 ⟨N, rt, bk, ct, ex⟩ ρ h := ⟨_, q, fun _ _ z => z⟩
theorem t_seqD (q : gDrop ga ⟨fun ρ' h' => g2 ⟨N, rt, bk, ct, ex⟩ ρ' h', rt, bk, ct, ex⟩ ρ h) : gSeq (gDrop ga) g2 ⟨N, rt, bk, ct, ex⟩ ρ h := ⟨_, q, fun _ _ z => z⟩
theorem t_seqA {g : GG} (q : gAsg g ga ⟨fun ρ' h' => g2 ⟨N, rt, bk, ct, ex⟩ ρ' h', rt, bk, ct, ex⟩ ρ h) : gSeq (gAsg g ga) g2 ⟨N, rt, bk, ct, ex⟩ ρ h := ⟨_, q, fun _ _ z => z⟩
theorem t_seqF {gi : GI} {g : GG} {gs : GS} (q : gFor gi g gs ⟨fun ρ' h' => g2 ⟨N, rt, bk, ct, ex⟩ ρ' h', rt, bk, ct, ex⟩ ρ h) : gSeq (gFor gi g gs) g2 ⟨N, rt, bk, ct, ex⟩ ρ h := ⟨_, q, fun _ _ z => z⟩
theorem t_seqP {n k : Nat} (q : gPar n k gr ⟨fun ρ' h' => g2 ⟨N, rt, bk, ct, ex⟩ ρ' h', rt, bk, ct, ex⟩ ρ h) : gSeq (gPar n k gr) g2 ⟨N, rt, bk, ct, ex⟩ ρ h := ⟨_, q, fun _ _ z => z⟩
theorem t_seqM (M : Env → VH → Prop) (q : g1 ⟨M, rt, bk, ct, ex⟩ ρ h) (k : ∀ ρ' h', M ρ' h' → g2 ⟨N, rt, bk, ct, ex⟩ ρ' h') : gSeq g1 g2 ⟨N, rt, bk, ct, ex⟩ ρ h := ⟨M, q, k⟩
theorem t_next (q : N ρ h) : gNext ⟨N, rt, bk, ct, ex⟩ ρ h := q
theorem t_brk (q : bk ρ h) : gBrk ⟨N, rt, bk, ct, ex⟩ ρ h := q
theorem t_cnt (q : ct ρ h) : gCnt ⟨N, rt, bk, ct, ex⟩ ρ h := q
theorem t_ret (q : ga ρ h rt) : gRet ga ⟨N, rt, bk, ct, ex⟩ ρ h := q
theorem t_retn (q : rt (.val .non) h) : gRetN ⟨N, rt, bk, ct, ex⟩ ρ h := q
theorem t_drop (q : ga ρ h fun _ h1 => N ρ h1) : gDrop ga ⟨N, rt, bk, ct, ex⟩ ρ h := q
theorem t_set {n : Nat} (q : ga ρ h fun r h1 => put r h1 fun v h2 => N (ρ.set n (some v)) h2) : gSet n ga ⟨N, rt, bk, ct, ex⟩ ρ h := q
theorem t_asg {g : GG} (q : ga ρ h fun r h1 => put r h1 fun v h2 => g v ρ fun ρ' => N ρ' h2) : gAsg g ga ⟨N, rt, bk, ct, ex⟩ ρ h := q
theorem t_ifS (q : t ρ h fun b h1 => if b = true then g1 ⟨N, rt, bk, ct, ex⟩ ρ h1 else g2 ⟨N, rt, bk, ct, ex⟩ ρ h1) : gIfS t g1 g2 ⟨N, rt, bk, ct, ex⟩ ρ h := q
theorem t_par {n k : Nat} (q : gr ρ h fun vs h1 => match vs with | [v, w] => N ((ρ.set n (some v)).set k (some w)) h1 | _ => False) : gPar n k gr ⟨N, rt, bk, ct, ex⟩ ρ h := q
theorem t_putV {QV : VV → VH → Prop} (q : QV v h) : put (.val v) h QV := q
theorem t_putN {QV : VV → VH → Prop} {o : VO} (q : QV (.ref h.length) (h ++ [o])) : put (.new o) h QV := q
theorem t_V {n : Nat} (e : ρ[n]? = some (some v)) (q : Q (.val v) h) : gV n ρ h Q := by unfold gV; rw [e]; exact q
theorem t_C (q : Q (.val v) h) : gC v ρ h Q := q
theorem t_B (q : ga ρ h fun rx h1 => gb ρ h1 fun ry h2 => go rx ry h2 Q) : gB go ga gb ρ h Q := q
theorem t_U (q : ga ρ h fun rx h1 => gu rx h1 Q) : gU gu ga ρ h Q := q
theorem t_call1 (q : ga ρ h fun rx h1 => gu rx h1 Q) : gCall1 gu ga ρ h Q := q
theorem t_call (q : gr ρ h fun vs h1 => S vs h1 Q) : gCall S gr ρ h Q := q
theorem t_callD {n : Nat} (q : gr ρ h fun vs h1 => vs.length = n ∧ S vs h1 Q) : gCallD n S gr ρ h Q := q
theorem t_len {n : Nat} {vs : List VV} {P : Prop} (e : vs.length = n) (q : P) : vs.length = n ∧ P := ⟨e, q⟩
theorem t_nil (q : QA [] h) : VL.gNil ρ h QA := q
theorem t_cons (q : ga ρ h fun r h1 => put r h1 fun v h2 => gr ρ h2 fun vs h3 => QA (v :: vs) h3) : VL.gCons ga gr ρ h QA := q
theorem t_tup (q : gr ρ h fun vs h1 => vs.length ≤ sizeLine ∧ Q (.val (.tup vs)) h1) : VL.gTup gr ρ h Q := q
theorem t_lst (q : gr ρ h fun vs h1 => vs.length ≤ sizeLine ∧ Q (.new (.lst vs)) h1) : gLst gr ρ h Q := q
theorem t_sz {vs : List VV} {P : Prop} (e : vs.length ≤ 1000) (q : P) : vs.length ≤ sizeLine ∧ P := ⟨Nat.le_trans e (by decide), q⟩
def kVal (QT : Bool → VH → Prop) (r : R) (h : VH) : Prop := match r with
  | .val (.bl b) => QT b h
  | _ => False
theorem t_val (q : ga ρ h fun r h1 => kVal QT r h1) : gVal ga ρ h QT := q
theorem t_kval {b : Bool} (q : QT b h) : kVal QT (.val (.bl b)) h := q
theorem t_not (q : t ρ h fun b h1 => QT (!b) h1) : gNot t ρ h QT := q
theorem t_and (q : t ρ h fun b h1 => if b = true then u ρ h1 QT else QT false h1) : gAnd t u ρ h QT := q
theorem t_or (q : t ρ h fun b h1 => if b = true then QT true h1 else u ρ h1 QT) : gOr t u ρ h QT := q
theorem t_if (q : t ρ h fun b h1 => if b = true then ga ρ h1 Q else gb ρ h1 Q) : gIf t ga gb ρ h Q := q
def kAnd (gb : GE) (ρ : Env) (Q : R → VH → Prop) (r : R) (h : VH) : Prop := match r with
  | .val (.bl b) => if b = true then gb ρ h Q else Q (.val (.bl false)) h
  | _ => False
def kOr (gb : GE) (ρ : Env) (Q : R → VH → Prop) (r : R) (h : VH) : Prop := match r with
  | .val (.bl b) => if b = true then Q (.val (.bl true)) h else gb ρ h Q
  | _ => False
def kNot (Q : R → VH → Prop) (r : R) (h : VH) : Prop := match r with
  | .val (.bl b) => Q (.val (.bl (!b))) h
  | _ => False
theorem t_andV (q : ga ρ h fun r h1 => kAnd gb ρ Q r h1) : gAndV ga gb ρ h Q := q
theorem t_orV (q : ga ρ h fun r h1 => kOr gb ρ Q r h1) : gOrV ga gb ρ h Q := q
theorem t_notV (q : ga ρ h fun r h1 => kNot Q r h1) : gNotV ga ρ h Q := q
theorem t_kand {b : Bool} (q : if b = true then gb ρ h Q else Q (.val (.bl false)) h) : kAnd gb ρ Q (.val (.bl b)) h := q
theorem t_kor {b : Bool} (q : if b = true then Q (.val (.bl true)) h else gb ρ h Q) : kOr gb ρ Q (.val (.bl b)) h := q
theorem t_knot {b : Bool} (q : Q (.val (.bl (!b))) h) : kNot Q (.val (.bl b)) h := q
def kCh (gp : GO) (gc : GE) (ρ : Env) (ry : R) (Q : R → VH → Prop) (r : R) (h : VH) : Prop := match r with
  | .val (.bl b) => if b = true then gc ρ h fun rz h4 => gp ry rz h4 Q else Q (.val (.bl false)) h
  | _ => False
theorem t_ch (q : ga ρ h fun rx h1 => gb ρ h1 fun ry h2 => go rx ry h2 fun r h3 => kCh gp gc ρ ry Q r h3) : gCh go gp ga gb gc ρ h Q := q
theorem t_kch {b : Bool} (q : if b = true then gc ρ h fun rz h4 => gp y rz h4 Q else Q (.val (.bl false)) h) : kCh gp gc ρ y Q (.val (.bl b)) h := q
/-- an if whose test is told by a proposition -/
theorem t_ite {P A B : Prop} [Decidable P] (a : P → A) (b : ¬ P → B) : if decide P = true then A else B := by
  by_cases c : P
  · rw [if_pos (decide_eq_true c)]; exact a c
  · rw [if_neg (by simp [c])]; exact b c
theorem t_iteN {P A B : Prop} [Decidable P] (a : P → B) (b : ¬ P → A) : if (!decide P) = true then A else B := by
  by_cases c : P
  · rw [if_neg (by simp [c])]; exact a c
  · rw [if_pos (by simp [c])]; exact b c
theorem t_iteb {b : Bool} {A B : Prop} (x : b = true → A) (y : b = false → B) : if b = true then A else B := by
  cases b with
  | true => exact x rfl
  | false => exact y rfl
theorem t_iteT {A B : Prop} (q : A) : if true = true then A else B := q
theorem t_iteF {A B : Prop} (q : B) : if false = true then A else B := q
theorem t_addI (q : Q (.val (.int (i + j))) h) : goAdd (.val (.int i)) (.val (.int j)) h Q := q
theorem t_addS {s z : Str} (e : s.length + z.length ≤ sizeLine) (q : Q (.val (.str (s ++ z))) h) : goAdd (.val (.str s)) (.val (.str z)) h Q := ⟨e, q⟩
theorem t_addT {s z : List VV} (e : s.length + z.length ≤ sizeLine) (q : Q (.val (.tup (s ++ z))) h) : goAdd (.val (.tup s)) (.val (.tup z)) h Q := ⟨e, q⟩
theorem t_subI (q : Q (.val (.int (i - j))) h) : goSub (.val (.int i)) (.val (.int j)) h Q := ⟨trivial, q⟩
theorem t_mulI (c : CMul i j ∨ CMulW i j) (q : Q (.val (.int (i * j))) h) : goMul (.val (.int i)) (.val (.int j)) h Q := ⟨c, q⟩
theorem t_mulT {s : List VV} (c : s ≠ [] ∧ 2 ≤ j ∧ j ≤ 1000 ∧ s.length ≤ 1000) (q : Q (.val (.tup (List.replicate j.toNat s).flatten)) h) : goMul (.val (.tup s)) (.val (.int j)) h Q := ⟨c, q⟩
theorem t_mulL {s : List VV} (e : x = .new (.lst s) ∨ ∃ n, x = .val (.ref n) ∧ h[n]? = some (.lst s)) (c : -(2 ^ 63) ≤ j ∧ j < 2 ^ 63 ∧ s.length * j.toNat ≤ sizeLine) (q : Q (.new (.lst (List.replicate j.toNat s).flatten)) h) : goMul x (.val (.int j)) h Q := by
  rcases e with rfl | ⟨n, rfl, hn⟩
  · exact ⟨c, q⟩
  · unfold goMul
    simp only [lstOf, hn]
    exact ⟨c, q⟩
theorem t_divI (c : CDivW i j) (q : Q (.val (.int (i / j))) h) : goFdiv (.val (.int i)) (.val (.int j)) h Q := ⟨c, q⟩
theorem t_modI (c : 0 < j) (q : Q (.val (.int (i % j))) h) : goMod (.val (.int i)) (.val (.int j)) h Q := ⟨c, q⟩
theorem t_powI (c : CPow i j) (q : Q (.val (.int (i ^ j.toNat))) h) : goPow (.val (.int i)) (.val (.int j)) h Q := ⟨c, q⟩
theorem t_pow18 (q : Q (.val (.int 1000000000000000000)) h) : goPow (.val (.int 10)) (.val (.int 18)) h Q := ⟨by unfold CPow; decide, q⟩
theorem t_lt (q : Q (.val (.bl (decide (i < j)))) h) : goLt (.val (.int i)) (.val (.int j)) h Q := ⟨trivial, q⟩
theorem t_le (q : Q (.val (.bl (decide (i ≤ j)))) h) : goLe (.val (.int i)) (.val (.int j)) h Q := ⟨trivial, q⟩
theorem t_gt (q : Q (.val (.bl (decide (j < i)))) h) : goGt (.val (.int i)) (.val (.int j)) h Q := ⟨trivial, q⟩
theorem t_ge (q : Q (.val (.bl (decide (j ≤ i)))) h) : goGe (.val (.int i)) (.val (.int j)) h Q := ⟨trivial, q⟩
theorem t_neg (q : Q (.val (.int (-i))) h) : guNeg (.val (.int i)) h Q := q
theorem t_isN (q : Q (.val (.bl (isNon x))) h) : goIs x (.val .non) h Q := q
theorem t_isnotN (q : Q (.val (.bl (!isNon x))) h) : goIsNot x (.val .non) h Q := q
theorem t_isB {b c : Bool} (q : Q (.val (.bl (decide (b = c)))) h) : goIs (.val (.bl b)) (.val (.bl c)) h Q := q
theorem t_isnotB {b c : Bool} (q : Q (.val (.bl (!decide (b = c)))) h) : goIsNot (.val (.bl b)) (.val (.bl c)) h Q := q
theorem t_eqI (q : Q (.val (.bl (decide (i = j)))) h) : goEq (.val (.int i)) (.val (.int j)) h Q := by
  show Q (.val (.bl (PyData.eqv (.int i) (.int j)))) h
  rw [show PyData.eqv (.int i) (.int j) = decide (i = j) by rw [PyData.eqv]; exact Bool.beq_eq_decide_eq _ _]
  exact q
theorem t_neI (q : Q (.val (.bl (!decide (i = j)))) h) : goNe (.val (.int i)) (.val (.int j)) h Q := by
  show Q (.val (.bl (!PyData.eqv (.int i) (.int j)))) h
  rw [show PyData.eqv (.int i) (.int j) = decide (i = j) by rw [PyData.eqv]; exact Bool.beq_eq_decide_eq _ _]
  exact q
theorem t_eq {d e : PyData} (h1 : dR h x = some d) (h2 : dR h y = some e) (q : Q (.val (.bl (PyData.eqv d e))) h) : goEq x y h Q := by
  unfold goEq; rw [h1, h2]; exact q
theorem t_ne {d e : PyData} (h1 : dR h x = some d) (h2 : dR h y = some e) (q : Q (.val (.bl (!PyData.eqv d e))) h) : goNe x y h Q := by
  unfold goNe; rw [h1, h2]; exact q
theorem t_in {b : Bool} (e : inB h x y = some b) (q : Q (.val (.bl b)) h) : goIn x y h Q := by unfold goIn; rw [e]; exact q
theorem t_notin {b : Bool} (e : inB h x y = some b) (q : Q (.val (.bl (!b))) h) : goNotIn x y h Q := by unfold goNotIn; rw [e]; exact q
theorem t_ix {xs : List VV} (hx : ∀ z, x ≠ .val (.str z)) (e1 : seqOf h x = some xs) (e2 : atI xs i = some v) (q : Q (.val v) h) : goIx x (.val (.int i)) h Q := by
  unfold goIx
  dsimp only
  split
  · rename_i z; exact absurd rfl (hx z)
  · rw [e1]; dsimp only; rw [e2]; exact q
theorem t_lenS {xs : List VV} (hx : ∀ z, x ≠ .val (.str z)) (e1 : seqOf h x = some xs) (q : Q (.val (.int (xs.length : Int))) h) : guLen x h Q := by
  unfold guLen
  split
  · rename_i z; exact absurd rfl (hx z)
  · rw [e1]; exact q
theorem t_list {xs : List VV} (e1 : seqOf h x = some xs) (q : Q (.new (.lst xs)) h) : guList x h Q := by unfold guList; rw [e1]; exact q
theorem t_tuple {xs : List VV} (e1 : seqOf h x = some xs) (nf : isFt x = false) (q : Q (.val (.tup xs)) h) : guTuple x h Q := by unfold guTuple; rw [e1]; exact ⟨nf, q⟩
theorem t_sum {ns : List Int} (e1 : seqOf h x = some (ns.map VV.int)) (q : Q (.val (.int ns.sum)) h) : guSumS x h Q := by unfold guSumS sintsOf; rw [e1]; simp only [Option.bind_some, intsOf_map]; exact q
theorem t_isi {s T : String} (e : tyR h x = some s) (q : Q (.val (.bl (subTy s T))) h) : guIsi T x h Q := by unfold guIsi; rw [e]; exact q
theorem t_min2 (q : Q (.val (.int (min i j))) h) : gcI2 min [.int i, .int j] h Q := q
theorem t_max2 (q : Q (.val (.int (max i j))) h) : gcI2 max [.int i, .int j] h Q := q
/-- tape[i] = e -/
def kSetI (v : VV) (N : Env → VH → Prop) (ρ : Env) (s t : R) (h4 : VH) : Prop := match s, t with
  | .val (.ref n), .val (.int i) => match h4[n]? with
    | some (.lst xs) => match ixN xs.length i with
      | some j => N ρ (h4.set n (.lst (xs.set j v)))
      | none => False
    | _ => False
  | _, _ => False
theorem t_setI {gv gi : GE} (q : gv ρ h fun r h1 => put r h1 fun v h2 => ga ρ h2 fun s h3 => gi ρ h3 fun t h4 => kSetI v N ρ s t h4) : gSetI gv ga gi ⟨N, rt, bk, ct, ex⟩ ρ h := q
theorem t_kset {n k : Nat} {xs : List VV} (e1 : h[n]? = some (.lst xs)) (e2 : ixN xs.length i = some k) (q : N ρ (h.set n (.lst (xs.set k v)))) : kSetI v N ρ (.val (.ref n)) (.val (.int i)) h := by
  unfold kSetI; dsimp only; rw [e1]; dsimp only; rw [e2]; exact q
def kApp (gb : GE) (ρ : Env) (Q : R → VH → Prop) (r : R) (h1 : VH) : Prop := match r with
  | .val (.ref n) => (∃ xs, h1[n]? = some (.lst xs)) ∧ gb ρ h1 fun s h2 => put s h2 fun v h3 => match h3[n]? with
    | some (.lst xs) => xs.length < sizeLine ∧ Q (.val .non) (h3.set n (.lst (xs ++ [v])))
    | _ => False
  | _ => False
def kApp2 (n : Nat) (Q : R → VH → Prop) (v : VV) (h3 : VH) : Prop := match h3[n]? with
    | some (.lst xs) => xs.length < sizeLine ∧ Q (.val .non) (h3.set n (.lst (xs ++ [v])))
    | _ => False
theorem t_app (q : ga ρ h fun r h1 => kApp gb ρ Q r h1) : gApp ga gb ρ h Q := q
theorem t_kapp {n : Nat} {xs : List VV} (e : h[n]? = some (.lst xs)) (q : gb ρ h fun s h2 => put s h2 fun v h3 => kApp2 n Q v h3) : kApp gb ρ Q (.val (.ref n)) h := ⟨⟨xs, e⟩, q⟩
theorem t_kapp2 {n : Nat} {xs : List VV} (e : h[n]? = some (.lst xs)) (l : xs.length < sizeLine) (q : Q (.val .non) (h.set n (.lst (xs ++ [v])))) : kApp2 n Q v h := by
  unfold kApp2; rw [e]; exact ⟨l, q⟩
def kLR (Q : R → VH → Prop) (r : R) (h1 : VH) : Prop := match r with
  | .val (.int n) => RgOk 0 n ∧ Q (.new (.lst (rng 0 n.toNat))) h1
  | _ => False
theorem t_lr (q : ga ρ h fun r h1 => kLR Q r h1) : gListRange ga ρ h Q := q
theorem t_klr (c : 0 ≤ i ∧ i ≤ 10000) (q : Q (.new (.lst (rng 0 i.toNat))) h) : kLR Q (.val (.int i)) h := ⟨.of_le (by omega) (by omega) (by omega) (by omega), q⟩
/-! slices -/
def kSl (Q : R → VH → Prop) (r : R) (lo hi : Option Int) (h3 : VH) : Prop := match r with
  | .val (.str z) => z.length ≤ sizeLine ∧ Q (.val (.str (cutS z lo hi))) h3
  | .val (.tup xs) => Q (.val (.tup (cutVV xs lo hi))) h3
  | .val (.rol xs) => Q (.new (.lst (cutVV xs lo hi))) h3
  | r => match lstOf h3 r with
    | some xs => Q (.new (.lst (cutVV xs lo hi))) h3
    | none => False
theorem t_sl {gl gh : GP} (q : ga ρ h fun r h1 => gl ρ h1 fun lo h2 => gh ρ h2 fun hi h3 => kSl Q r lo hi h3) : gSl ga gl gh ρ h Q := q
theorem t_ksT {xs : List VV} {lo hi : Option Int} (q : Q (.val (.tup (cutVV xs lo hi))) h) : kSl Q (.val (.tup xs)) lo hi h := q
theorem t_ksR {xs : List VV} {lo hi : Option Int} (q : Q (.new (.lst (cutVV xs lo hi))) h) : kSl Q (.val (.rol xs)) lo hi h := q
theorem t_ksS {z : Str} {lo hi : Option Int} (c : z.length ≤ sizeLine) (q : Q (.val (.str (cutS z lo hi))) h) : kSl Q (.val (.str z)) lo hi h := ⟨c, q⟩
theorem t_pN {QP : Option Int → VH → Prop} (q : QP none h) : gpN ρ h QP := q
def kP (QP : Option Int → VH → Prop) (r : R) (h1 : VH) : Prop := match r with
  | .val (.int i) => QP (some i) h1
  | _ => False
theorem t_pS {QP : Option Int → VH → Prop} (q : ga ρ h fun r h1 => kP QP r h1) : gpS ga ρ h QP := q
theorem t_kp {QP : Option Int → VH → Prop} (q : QP (some i) h) : kP QP (.val (.int i)) h := q
/-! loops -/
theorem t_for {gi : GI} {g : GG} {gs : GS} (q : gi ρ h fun xs st h1 => forL h1.length st g gs ⟨N, rt, bk, ct, ex⟩ xs ρ h1) : gFor gi g gs ⟨N, rt, bk, ct, ex⟩ ρ h := q
def kR1 (QI : List VV → (VH → Prop) → VH → Prop) (r : R) (h1 : VH) : Prop := match r with
  | .val (.int n) => (-(2 ^ 62) ≤ n ∧ n < 2 ^ 62) ∧ QI (rng 0 n.toNat) (fun _ => True) h1
  | _ => False
theorem t_r1 {QI : List VV → (VH → Prop) → VH → Prop} (q : ga ρ h fun r h1 => kR1 QI r h1) : giR1 ga ρ h QI := q
theorem t_kr1 {QI : List VV → (VH → Prop) → VH → Prop} (c : -1000000 ≤ i ∧ i ≤ 1000000) (q : QI (rng 0 i.toNat) (fun _ => True) h) : kR1 QI (.val (.int i)) h := ⟨⟨by omega, by omega⟩, q⟩
def kS (QI : List VV → (VH → Prop) → VH → Prop) (r : R) (h1 : VH) : Prop := match seqOf h1 r with
  | some xs => QI xs (stOf r xs) h1
  | none => False
theorem t_s {QI : List VV → (VH → Prop) → VH → Prop} (q : ga ρ h fun r h1 => kS QI r h1) : giS ga ρ h QI := q
theorem t_ks {QI : List VV → (VH → Prop) → VH → Prop} {xs : List VV} (e : seqOf h x = some xs) (q : QI xs (stOf x xs) h) : kS QI x h := by unfold kS; rw [e]; exact q
def kE (QI : List VV → (VH → Prop) → VH → Prop) (r : R) (h1 : VH) : Prop := match seqOf h1 r with
  | some xs => QI (enumV xs) (stOf r xs) h1
  | none => False
theorem t_e {QI : List VV → (VH → Prop) → VH → Prop} (q : ga ρ h fun r h1 => kE QI r h1) : giE ga ρ h QI := q
theorem t_ke {QI : List VV → (VH → Prop) → VH → Prop} {xs : List VV} (e : seqOf h x = some xs) (q : QI (enumV xs) (stOf x xs) h) : kE QI x h := by unfold kE; rw [e]; exact q
/-- a for by what holds ahead of each turn -/
theorem forL_inv {st : VH → Prop} {g : GG} {gs : GS} {n0 : Nat} (I : Nat → Env → VH → Prop) : ∀ (xs : List VV) (k : Nat) (ρ : Env) (h : VH), (∀ i ρ h, I i ρ h → st h) →
    (∀ i x ρ h, xs[i]? = some x → I (k + i) ρ h → g x ρ fun ρ1 => gs ⟨fun ρ2 h2 => ∃ ρ3 h3, Fgt n0 ρ2 h2 ρ3 h3 ∧ I (k + i + 1) ρ3 h3, rt, N, fun ρ2 h2 => ∃ ρ3 h3, Fgt n0 ρ2 h2 ρ3 h3 ∧ I (k + i + 1) ρ3 h3, ex⟩ ρ1 h) →
    I k ρ h → (∀ ρ h, I (k + xs.length) ρ h → N ρ h) → (mono : ∀ x ρ (A B : Env → Prop), (∀ ρ, A ρ → B ρ) → g x ρ A → g x ρ B) → forL n0 st g gs ⟨N, rt, bk, ct, ex⟩ xs ρ h
  | [], k, ρ, h, hst, _, h0, hd, _ => ⟨hst _ _ _ h0, hd ρ h h0⟩
  | x :: xs, k, ρ, h, hst, hs, h0, hd, mono => by
    refine ⟨hst _ _ _ h0, mono x ρ _ _ (fun ρ1 q => ⟨_, q, fun ρ2 h2 ⟨ρ3, h3, f, q3⟩ => ⟨ρ3, h3, f, ?_⟩⟩) (hs 0 x ρ h rfl h0)⟩
    refine forL_inv I xs (k + 1) ρ3 h3 hst (fun i x ρ h e q => ?_) q3 (fun ρ h q => hd ρ h ?_) mono
    · have := hs (i + 1) x ρ h (by simpa using e) (by rw [show k + (i + 1) = k + 1 + i by omega]; exact q)
      rw [show k + (i + 1) = k + 1 + i by omega] at this
      exact this
    · rw [List.length_cons, show k + (xs.length + 1) = k + 1 + xs.length by omega]; exact q
theorem t_gtN {n : Nat} {P : Env → Prop} (q : P (ρ.set n (some v))) : gtN n v ρ P := q
theorem t_gtT {n : Nat} {gs : GGs} {xs : List VV} {P : Env → Prop} (e : xs.length = n) (q : gs xs ρ P) : gtT n gs (.tup xs) ρ P := ⟨e, q⟩
theorem t_gtC {g : GG} {gs : GGs} {xs : List VV} {P : Env → Prop} (q : g v ρ fun ρ' => gs xs ρ' P) : gtCons g gs (v :: xs) ρ P := q
theorem t_gtE {P : Env → Prop} (q : P ρ) : gtNil [] ρ P := ⟨rfl, q⟩
theorem mono_gtN {n : Nat} : ∀ x ρ (A B : Env → Prop), (∀ ρ, A ρ → B ρ) → gtN n x ρ A → gtN n x ρ B := fun _ _ _ _ k q => k _ q
theorem mono_gt2 {n k : Nat} : ∀ x ρ (A B : Env → Prop), (∀ ρ, A ρ → B ρ) → gtT 2 (gtCons (gtN n) (gtCons (gtN k) gtNil)) x ρ A → gtT 2 (gtCons (gtN n) (gtCons (gtN k) gtNil)) x ρ B := fun x ρ A B k q => by
  unfold gtT at q ⊢
  split at q
  · rename_i xs
    match xs, q with
    | [a, b], q => exact ⟨q.1, q.2.1, k _ q.2.2⟩
    | [], q => exact absurd q.1 (by simp)
    | [_], q => exact absurd q.1 (by simp)
    | _ :: _ :: _ :: _, q => exact absurd q.1 (by simp)
  · exact q.elim
theorem t_yes (q : QT true h) : gYes ρ h QT := q
theorem t_lc {gi : GI} {g : GG} {vs : List Nat} (q : gi ρ h fun xs st h1 => lcL h1.length st g t ga (wipeV ρ vs) Q xs [] h1) : gLc gi g t ga vs ρ h Q := q
/-- a comprehension whose elements are told by a function and change nothing, all kept -/
theorem lc_map {st : VH → Prop} {g : GG} {ρw : Env} {n0 : Nat} (f : VV → VV) (mono : ∀ x ρ (A B : Env → Prop), (∀ ρ, A ρ → B ρ) → g x ρ A → g x ρ B)
    (monoT : ∀ ρ h (A B : Bool → VH → Prop), (∀ b h, A b h → B b h) → t ρ h A → t ρ h B) (monoE : ∀ ρ h (A B : R → VH → Prop), (∀ b h, A b h → B b h) → ga ρ h A → ga ρ h B) (xs : List VV) : ∀ (acc : List VV), st h → acc.length + xs.length ≤ 100000 →
    (∀ x ∈ xs, g x ρw fun ρ1 => t ρ1 h fun b h1 => (b = true ∧ h1 = h) ∧ ga ρ1 h fun r h2 => put r h2 fun v h3 => v = f x ∧ h3 = h) → Q (.new (.lst (acc ++ xs.map f))) h → lcL n0 st g t ga ρw Q xs acc h := by
  induction xs with
  | nil => exact fun acc hst _ _ q => ⟨hst, by simpa using q⟩
  | cons x xs ih =>
    intro acc hst hl hs q
    rw [List.length_cons] at hl
    refine ⟨hst, mono x ρw _ _ (fun ρ1 q1 => ?_) (hs x (by simp))⟩
    refine ⟨fun o h3 => o = some (f x) ∧ h3 = h, monoT ρ1 h _ _ (fun b h1 q2 => ?_) q1, fun v h3 e => ?_, fun h1 e => nomatch e.1⟩
    · obtain ⟨⟨rfl, rfl⟩, q2⟩ := q2
      refine monoE ρ1 h1 _ _ (fun r h2 q3 => ?_) q2
      cases r with
      | val v => exact ⟨congrArg some q3.1, q3.2⟩
      | new o => exact ⟨congrArg some q3.1, q3.2⟩
    · obtain ⟨e1, e2⟩ := e
      cases e1; subst e2
      exact ⟨Nat.lt_of_lt_of_le (show acc.length < 100001 by omega) (by decide), h3, .inl rfl, ih (acc ++ [f x]) hst (by simp; omega) (fun y hy => hs y (by simp [hy])) (by simpa using q)⟩
end
theorem divW {i j : Int} (h0 : 0 < j) (h1 : j < 2 ^ 300) : CDivW i j := wide_div (b := 300) h0 (by omega) (by decide) (by decide)
/-! ### the heap of a law that draws: the script's list, the tape, the rest -/
structure Ur where
  at_ : Int
  rest : Int
  left : Int
structure Ur.Ok (s : Ur) (b : Int) : Prop where
  lo : 0 ≤ s.at_
  hi : s.at_ ≤ b
theorem Ur.Ok.mono {s : Ur} {b c : Int} (o : s.Ok b) (h : b ≤ c) : s.Ok c := ⟨o.lo, Int.le_trans o.hi h⟩
end VL

set_option autoImplicit false
namespace VL
open PySem L2
/-! ### closed values -/
theorem closedVs_all {n : Nat} : ∀ {xs : List VV}, (∀ x ∈ xs, closedV n x = true) → closedVs n xs = true
  | [], _ => rfl
  | x :: xs, h => by
    rw [closedVs, h x (by simp), closedVs_all (fun y hy => h y (by simp [hy]))]; rfl
theorem closedVs_mem {n : Nat} {xs : List VV} (h : closedVs n xs = true) {x : VV} (hx : x ∈ xs) : closedV n x = true := by
  obtain ⟨i, hi⟩ := List.mem_iff_getElem?.mp hx
  exact closedVs_get h hi
mutual
theorem closedV_mono {n k : Nat} (l : n ≤ k) : ∀ v : VV, closedV n v = true → closedV k v = true
  | .non, _ => rfl
  | .bl _, _ => rfl
  | .int _, _ => rfl
  | .str _, _ => rfl
  | .tup xs, h => by rw [closedV] at h ⊢; exact closedVs_mono l xs h
  | .rol xs, h => by rw [closedV] at h ⊢; exact closedVs_mono l xs h
  | .ftp xs, h => by rw [closedV] at h ⊢; exact closedVs_mono l xs h
  | .ref _, h => by simp [closedV] at h ⊢; omega
theorem closedVs_mono {n k : Nat} (l : n ≤ k) : ∀ xs : List VV, closedVs n xs = true → closedVs k xs = true
  | [], _ => rfl
  | x :: xs, h => by
    simp [closedVs] at h
    rw [closedVs, closedV_mono l x h.1, closedVs_mono l xs h.2]; rfl
end
theorem closedO_mono {n k : Nat} (l : n ≤ k) {o : VO} (h : closedO n o = true) : closedO k o = true := by
  cases o with
  | lst xs => exact closedVs_mono l xs h
  | dic ks vs => exact closedVs_mono l vs h
  | dtu ks vs => exact closedVs_mono l vs h
  | ins C fs vs => exact closedVs_mono l vs h
  | exc C fs vs => exact closedVs_mono l vs h
  | fdt ob kvs vs => exact closedVs_mono l vs h
theorem closedH_mono {n k : Nat} (l : n ≤ k) {h : VH} (c : closedH n h) : closedH k h := fun o ho => closedO_mono l (c o ho)
theorem closedH_nil {n : Nat} : closedH n [] := fun _ h => absurd h (by simp)
theorem closedH_snoc {n : Nat} {h : VH} {o : VO} (a : closedH n h) (b : closedO n o = true) : closedH n (h ++ [o]) := fun x hx => by
  rcases List.mem_append.mp hx with q | q
  · exact a x q
  · rw [List.mem_singleton.mp q]; exact b
theorem closed_ints {n : Nat} (ns : List Int) : closedVs n (ns.map VV.int) = true := closedVs_all fun x hx => by
  obtain ⟨i, _, rfl⟩ := List.mem_map.mp hx; rfl
/-- a table as a value -/
abbrev tv (rows : List (List Int)) : VV := .tup (rows.map fun x => .tup (x.map .int))
theorem closed_tvs {n : Nat} (rows : List (List Int)) : closedVs n (rows.map fun x => .tup (x.map .int)) = true := closedVs_all fun x hx => by
  obtain ⟨i, _, rfl⟩ := List.mem_map.mp hx; rw [closedV]; exact closed_ints i
theorem closed_tv {n : Nat} (rows : List (List Int)) : closedV n (tv rows) = true := by rw [closedV]; exact closed_tvs rows
/-- a table of n rows of n whole numbers from 0 to m -/
structure Tab (n : Nat) (m : Int) (rows : List (List Int)) : Prop where
  lo : 2 ≤ n
  hi : n ≤ 6
  len : rows.length = n
  row : ∀ x ∈ rows, x.length = n
  pos : ∀ x ∈ rows, ∀ i ∈ x, 0 ≤ i ∧ i ≤ m
/-! ### the heap of a law that draws -/
abbrev TH0 (ns : List Int) (s : Ur) (r : VH) : VH := .lst (ns.map .int) :: .lst [.ref 0, .int s.at_, .int s.rest, .int s.left] :: r
def TH (ns : List Int) (s : Ur) (r : VH) : VH := TH0 ns s r
abbrev Cl (r : VH) : Prop := closedH (r.length + 2) r
section
variable {ns : List Int} {s : Ur} {r : VH} {a b c : VO}
theorem th_len : (TH ns s r).length = r.length + 2 := rfl
theorem th_app : TH ns s r ++ [a] = TH ns s (r ++ [a]) := rfl
theorem th_get1 : (TH ns s (r ++ [a]))[r.length + 2]? = some a := by
  show (r ++ [a])[r.length]? = _; simp
theorem th_get2 : (TH ns s (r ++ [a] ++ [b]))[r.length + 2]? = some a := by
  show (r ++ [a] ++ [b])[r.length]? = _; simp
theorem th_get3 : (TH ns s (r ++ [a] ++ [b] ++ [c]))[r.length + 2]? = some a := by
  show (r ++ [a] ++ [b] ++ [c])[r.length]? = _; simp
theorem seq_lst {h : VH} {n : Nat} {xs : List VV} (e : h[n]? = some (.lst xs)) : seqOf h (.val (.ref n)) = some xs := by
  unfold seqOf; dsimp only; rw [e]
theorem th_seq1 {xs : List VV} : seqOf (TH ns s (r ++ [.lst xs])) (.val (.ref (r.length + 2))) = some xs := seq_lst th_get1
theorem th_seq2 {xs : List VV} : seqOf (TH ns s (r ++ [.lst xs] ++ [b])) (.val (.ref (r.length + 2))) = some xs := seq_lst th_get2
theorem th_seq3 {xs : List VV} : seqOf (TH ns s (r ++ [.lst xs] ++ [b] ++ [c])) (.val (.ref (r.length + 2))) = some xs := seq_lst th_get3
theorem set_top {α : Type} {a b : α} : ∀ (r t : List α), (r ++ a :: t).set r.length b = r ++ b :: t
  | [], _ => rfl
  | x :: r, t => by rw [List.cons_append, List.length_cons, List.set_cons_succ, set_top r t]; rfl
theorem th_set1 : (TH ns s (r ++ [a])).set (r.length + 2) b = TH ns s (r ++ [b]) := by
  show _ :: _ :: (r ++ [a]).set r.length b = _ :: _ :: (r ++ [b]); rw [set_top]
theorem th_set2 : (TH ns s (r ++ [a] ++ [c])).set (r.length + 2) b = TH ns s (r ++ [b] ++ [c]) := by
  show _ :: _ :: (r ++ [a] ++ [c]).set r.length b = _ :: _ :: (r ++ [b] ++ [c])
  rw [List.append_assoc, List.append_assoc]
  exact congrArg _ (congrArg _ (set_top r [c]))
theorem th_take {j : VH} : (TH ns s (r ++ j)).take (r.length + 2) = TH ns s r := by
  show _ :: _ :: (r ++ j).take r.length = _ :: _ :: r
  rw [List.take_left]
theorem th_closed {n : Nat} (h : closedH n r) (l : 1 ≤ n) : closedH n (TH ns s r) := fun o ho => by
  rcases List.mem_cons.mp ho with rfl | ho
  · exact closed_ints ns
  · rcases List.mem_cons.mp ho with rfl | ho
    · simp [closedO, closedVs, closedV]; omega
    · exact h o ho
theorem Cl.snoc (h : Cl r) (q : closedO (r.length + 3) a = true) : Cl (r ++ [a]) := by
  have e : (r ++ [a]).length + 2 = r.length + 3 := by simp
  unfold Cl; rw [e]
  exact closedH_snoc (closedH_mono (by omega) h) q
/-- what is left of a state -/
def envC (n : Nat) : Env → Env → Prop
  | [], [] => True
  | none :: a, _ :: b => envC n a b
  | some v :: a, w :: b => w = some v ∧ closedV n v = true ∧ envC n a b
  | _, _ => False
theorem envC_ok {n : Nat} : ∀ {a b : Env}, envC n a b → a.length = b.length ∧ ∀ (i : Nat) (v : VV), a[i]? = some (some v) → b[i]? = some (some v) ∧ closedV n v = true
  | [], [], _ => ⟨rfl, fun i v e => by simp at e⟩
  | none :: a, _ :: b, h => by
    rw [envC] at h
    obtain ⟨h1, h2⟩ := envC_ok h
    exact ⟨by simp [h1], fun i v e => match i with
      | 0 => by simp at e
      | i + 1 => h2 i v (by simpa using e)⟩
  | some v :: a, w :: b, h => by
    rw [envC] at h
    obtain ⟨rfl, hv, h⟩ := h
    obtain ⟨h1, h2⟩ := envC_ok h
    exact ⟨by simp [h1], fun i v e => match i with
      | 0 => by simp at e; subst e; exact ⟨rfl, hv⟩
      | i + 1 => h2 i v (by simpa using e)⟩
  | [], _ :: _, h => by rw [envC] at h; exact h.elim; all_goals simp
  | none :: _, [], h => by rw [envC] at h; exact h.elim; all_goals simp
  | some _ :: _, [], h => by rw [envC] at h; exact h.elim; all_goals simp
theorem fgtT {n0 : Nat} {j : VH} {ρ ρ' : Env} {I : Env → VH → Prop} (l : n0 ≤ r.length + 2) (c : Cl r) (e : envC (r.length + 2) ρ' ρ) (q : I ρ' (TH ns s r)) : ∃ ρ3 h3, Fgt n0 ρ (TH ns s (r ++ j)) ρ3 h3 ∧ I ρ3 h3 := by
  refine ⟨ρ', _, .inr ⟨(envC_ok e).1, _, l, th_take.symm, th_closed c (by omega), (envC_ok e).2⟩, q⟩
theorem finT {n0 : Nat} {j : VH} {v : VV} {Q : R → VH → Prop} (e : n0 = r.length + 2) (c : Cl r) (cv : closedV (r.length + 2) v = true) (q : Q (.val v) (TH ns s r)) : fin n0 Q (.val v) (TH ns s (r ++ j)) := by
  subst e
  refine ⟨_, _, .val (r.length + 2) (Nat.le_refl _) (by rw [th_take]; exact th_closed c (by omega)) cv, ?_⟩
  rw [th_take]; exact q
theorem finK {n0 : Nat} {h : VH} {x : R} {Q : R → VH → Prop} (q : Q x h) : fin n0 Q x h := ⟨_, _, .keep, q⟩
end
/-! ### ranges -/
theorem rng_len {lo : Int} {n : Nat} : (rng lo n).length = n := by simp [rng]
theorem rng_get {lo : Int} {n i : Nat} {x : VV} (h : (rng lo n)[i]? = some x) : i < n ∧ x = .int (lo + i) := by
  have hl := (List.getElem?_eq_some_iff.mp h).1
  rw [rng_len] at hl
  refine ⟨hl, ?_⟩
  simp [rng, hl] at h
  exact h.symm
theorem rng_mem {lo : Int} {n : Nat} {x : VV} (h : x ∈ rng lo n) : ∃ i : Nat, i < n ∧ x = .int (lo + i) := by
  obtain ⟨i, hi⟩ := List.mem_iff_getElem?.mp h
  exact ⟨i, rng_get hi⟩
theorem atI_get {xs : List VV} {i : Nat} (h : i < xs.length) : atI xs (i : Int) = some xs[i] := by
  unfold atI ixN
  rw [if_pos (by omega), if_pos (by omega)]
  simp [h]
theorem atI_ofInt {xs : List VV} {i : Int} (h0 : 0 ≤ i) (h : i < xs.length) : atI xs i = xs[i.toNat]? := by
  unfold atI ixN
  rw [if_pos h0, if_pos (by omega)]
  rfl
end VL

set_option autoImplicit false
namespace VL
open PySem L2
theorem rng_get0 {n i : Nat} {x : VV} (h : (rng 0 n)[i]? = some x) : i < n ∧ x = .int (i : Int) := by
  obtain ⟨a, b⟩ := rng_get h
  exact ⟨a, by rw [b, Int.zero_add]⟩
theorem rng_mem0 {n : Nat} {x : VV} (h : x ∈ rng 0 n) : ∃ i : Nat, i < n ∧ x = .int (i : Int) := by
  obtain ⟨i, hi⟩ := List.mem_iff_getElem?.mp h
  exact ⟨i, rng_get0 hi⟩
theorem ixN_in {l : Nat} {i : Int} (h0 : 0 ≤ i) (h : i < l) : ixN l i = some i.toNat := by
  unfold ixN
  rw [if_pos h0, if_pos (by omega)]
theorem atI_rng {n : Nat} {i : Int} (h0 : 0 ≤ i) (h : i < n) : atI (rng 0 n) i = some (.int i) := by
  rw [atI_ofInt h0 (by rw [rng_len]; exact h)]
  have : i.toNat < n := by omega
  simp [rng, this]
  omega
theorem atI_map {α : Type} {l : List α} {f : α → VV} {i : Int} (h0 : 0 ≤ i) (h : i < l.length) : ∃ a ∈ l, l[i.toNat]? = some a ∧ atI (l.map f) i = some (f a) := by
  have hl : i.toNat < l.length := by omega
  refine ⟨l[i.toNat], List.getElem_mem hl, List.getElem?_eq_getElem hl, ?_⟩
  rw [atI_ofInt h0 (by rw [List.length_map]; exact h), List.getElem?_map, List.getElem?_eq_getElem hl]; rfl
/-! ### data -/
theorem dV_ref {f n : Nat} {h : VH} {xs : List VV} {ds : List PyData} (e : h[n]? = some (.lst xs)) (o : optAll (dV f h) xs = some ds) : dV (f + 1) h (.ref n) = some (.list ds) := by
  rw [dV]; simp only [e, o]; rfl
theorem dV_tup {f : Nat} {h : VH} {xs : List VV} {ds : List PyData} (o : optAll (dV f h) xs = some ds) : dV (f + 1) h (.tup xs) = some (.tuple ds) := by
  rw [dV]; simp only [o]; rfl
theorem dR_new {h : VH} {xs : List VV} {ds : List PyData} (o : optAll (dV 20 h) xs = some ds) : dR h (.new (.lst xs)) = some (.list ds) := by
  unfold dR; dsimp only; rw [o]; rfl
theorem dV_int {f : Nat} {h : VH} {i : Int} : dV (f + 1) h (.int i) = some (.int i) := by rw [dV]
theorem dV_non {f : Nat} {h : VH} : dV (f + 1) h .non = some .none := by rw [dV]
theorem dV_bl {f : Nat} {h : VH} {b : Bool} : dV (f + 1) h (.bl b) = some (.bool b) := by rw [dV]
theorem dR_int {h : VH} {i : Int} : dR h (.val (.int i)) = some (.int i) := dV_int (f := 19) (h := h)
theorem dR_ref {h : VH} {n : Nat} {xs : List VV} {ds : List PyData} (e : h[n]? = some (.lst xs)) (o : optAll (dV 19 h) xs = some ds) : dR h (.val (.ref n)) = some (.list ds) := dV_ref (f := 19) e o
theorem dR_tup {h : VH} {xs : List VV} {ds : List PyData} (o : optAll (dV 19 h) xs = some ds) : dR h (.val (.tup xs)) = some (.tuple ds) := dV_tup (f := 19) (h := h) o
theorem eqv_int {i j : Int} : PyData.eqv (.int i) (.int j) = decide (i = j) := by rw [PyData.eqv]; exact Bool.beq_eq_decide_eq _ _
theorem eqv_lst {a b : List PyData} : PyData.eqv (.list a) (.list b) = PyData.eqvAll a b := by rw [PyData.eqv]
theorem eqv_tup {a b : List PyData} : PyData.eqv (.tuple a) (.tuple b) = PyData.eqvAll a b := by rw [PyData.eqv]
theorem eqv_nil {a : List PyData} : PyData.eqv (.list a) (.list []) = a.isEmpty := by
  rw [eqv_lst]; cases a <;> simp [PyData.eqvAll]
theorem eqvAll_refl_map {α : Type} {g : α → PyData} : ∀ {l : List α}, (∀ a ∈ l, PyData.eqv (g a) (g a) = true) → PyData.eqvAll (l.map g) (l.map g) = true
  | [], _ => by simp [PyData.eqvAll]
  | a :: l, h => by
    rw [List.map_cons, PyData.eqvAll, h a (by simp), eqvAll_refl_map (fun x hx => h x (by simp [hx]))]; rfl
theorem inB_list {h : VH} {n : Nat} {x : R} {xs : List VV} {d : PyData} {ds : List PyData} (e : h[n]? = some (.lst xs)) (o : optAll (dV 19 h) xs = some ds) (dx : dR h x = some d) : inB h x (.val (.ref n)) = some (ds.any fun z => PyData.eqv z d) := by
  have e1 : lstOf h (.val (.ref n)) = some xs := by unfold lstOf; dsimp only; rw [e]
  have e2 : dR h (.val (.ref n)) = some (.list ds) := by unfold dR; exact dV_ref e o
  unfold inB; dsimp only; simp only [e1, dx, e2]
theorem ints_of {P : Int → Prop} : ∀ {vs : List VV}, (∀ v ∈ vs, ∃ j : Int, v = .int j ∧ P j) → ∃ js : List Int, vs = js.map VV.int ∧ ∀ j ∈ js, P j
  | [], _ => ⟨[], rfl, fun _ h => absurd h (by simp)⟩
  | v :: vs, h => by
    obtain ⟨j, rfl, hj⟩ := h v (by simp)
    obtain ⟨js, rfl, hs⟩ := ints_of (vs := vs) fun x hx => h x (by simp [hx])
    exact ⟨j :: js, rfl, fun x hx => (List.mem_cons.mp hx).elim (fun e => by rw [e]; exact hj) (hs x)⟩
theorem optAll_ints {f : Nat} {h : VH} (js : List Int) : optAll (dV (f + 1) h) (js.map VV.int) = some (js.map PyData.int) := optAll_mem fun _ _ => dV_int
/-- what may be missing -/
def ov : Option Int → VV
  | none => .non
  | some j => .int j
def ovD : Option Int → PyData
  | none => .none
  | some j => .int j
theorem dV_ov {f : Nat} {h : VH} : ∀ x : Option Int, dV (f + 1) h (ov x) = some (ovD x)
  | none => dV_non
  | some _ => dV_int
theorem optAll_ov {f : Nat} {h : VH} (js : List (Option Int)) : optAll (dV (f + 1) h) (js.map ov) = some (js.map ovD) := optAll_mem fun x _ => dV_ov x
theorem closed_ov {n : Nat} (os : List (Option Int)) : closedVs n (os.map ov) = true := closedVs_all fun x hx => by
  obtain ⟨i, _, rfl⟩ := List.mem_map.mp hx; cases i <;> rfl
theorem rep_one {α : Type} (a : α) : ∀ n : Nat, (List.replicate n [a]).flatten = List.replicate n a
  | 0 => rfl
  | n + 1 => by rw [List.replicate_succ, List.flatten_cons, rep_one a n]; rfl
/-! ### cuts -/
theorem cut_map {α : Type} (l : List α) (f : α → VV) (lo hi : Option Int) : cutVV (l.map f) lo hi = ((l.drop (HT.sIx l.length 0 lo)).take (HT.sIx l.length l.length hi - HT.sIx l.length 0 lo)).map f := by
  unfold cutVV; simp only [List.length_map, List.map_take, List.map_drop]
theorem cut_to {α : Type} (l : List α) (f : α → VV) {k : Int} (h : 0 ≤ k) : cutVV (l.map f) none (some k) = (l.take k.toNat).map f := by
  rw [cut_map]
  obtain ⟨n, rfl⟩ : ∃ n : Nat, k = n := ⟨k.toNat, by omega⟩
  rw [HT.sIx_nat, HT.sIx_none]
  simp [List.take_eq_take_iff]
theorem cut_from {α : Type} (l : List α) (f : α → VV) {k : Int} (h : 0 ≤ k) : cutVV (l.map f) (some k) none = (l.drop k.toNat).map f := by
  rw [cut_map]
  obtain ⟨n, rfl⟩ : ∃ n : Nat, k = n := ⟨k.toNat, by omega⟩
  rw [HT.sIx_nat, HT.sIx_none]
  congr 1
  rw [List.take_of_length_le (by simp)]
  rcases Nat.le_total n l.length with c | c
  · simp [Nat.min_eq_left c]
  · rw [Nat.min_eq_right c]; simp [List.drop_eq_nil_of_le c]
/-! ### the cells of a pairing -/
def celF : VV → Option VV
  | .tup [_, .non] => none
  | v => some v
def pv (p : Int × Int) : VV := .tup [.int p.1, .int p.2]
theorem enumV_mem {os : List (Option Int)} {x : VV} (h : x ∈ enumV (os.map ov)) : ∃ (i : Nat) (o : Option Int), os[i]? = some o ∧ x = .tup [.int i, ov o] := by
  obtain ⟨i, hi⟩ := List.mem_iff_getElem?.mp h
  obtain ⟨y, h1, h2⟩ := enumV_get hi
  rw [List.getElem?_map] at h1
  cases q : os[i]? with
  | none => rw [q] at h1; cases h1
  | some o => rw [q] at h1; cases h1; exact ⟨i, o, q, h2⟩
def cells (os : List (Option Int)) (i : Nat) : List VV := ((enumV (os.map ov)).take i).filterMap celF
theorem cells_pv {os : List (Option Int)} {i : Nat} : ∀ v ∈ cells os i, ∃ p, v = pv p := fun v hv => by
  obtain ⟨x, hx, e⟩ := List.mem_filterMap.mp hv
  obtain ⟨k, o, _, rfl⟩ := enumV_mem (List.mem_of_mem_take hx)
  cases o with
  | none => cases e
  | some j => cases e; exact ⟨(k, j), rfl⟩
theorem cells_len {os : List (Option Int)} {i : Nat} : (cells os i).length ≤ os.length := by
  refine Nat.le_trans (List.length_filterMap_le _ _) ?_
  rw [List.length_take, enumV_len, List.length_map]; omega
theorem cells_all {os : List (Option Int)} {n : Nat} (h : os.length ≤ n) : cells os n = (enumV (os.map ov)).filterMap celF := by
  unfold cells; rw [List.take_of_length_le (by rw [enumV_len, List.length_map]; exact h)]
theorem cells_succ {os : List (Option Int)} {i : Nat} {o : Option Int} (h : os[i]? = some o) : cells os (i + 1) = cells os i ++ (match o with | none => [] | some j => [pv (i, j)]) := by
  have e : (enumV (os.map ov))[i]? = some (.tup [.int i, ov o]) := by
    unfold enumV; rw [List.getElem?_mapIdx, List.getElem?_map, h]; rfl
  unfold cells
  rw [List.take_add_one, e, List.filterMap_append]
  cases o <;> rfl
theorem cells_none {os : List (Option Int)} {i : Nat} (h : os[i]? = some none) : cells os (i + 1) = cells os i := by rw [cells_succ h]; exact List.append_nil _
theorem cells_some {os : List (Option Int)} {i : Nat} {j : Int} (h : os[i]? = some (some j)) : cells os (i + 1) = cells os i ++ [pv (i, j)] := cells_succ h
theorem pv_of : ∀ {vs : List VV}, (∀ v ∈ vs, ∃ p, v = pv p) → ∃ ps : List (Int × Int), vs = ps.map pv
  | [], _ => ⟨[], rfl⟩
  | v :: vs, h => by
    obtain ⟨p, rfl⟩ := h v (by simp)
    obtain ⟨ps, rfl⟩ := pv_of (vs := vs) fun x hx => h x (by simp [hx])
    exact ⟨p :: ps, rfl⟩
def pD (p : Int × Int) : PyData := .tuple [.int p.1, .int p.2]
theorem optAll_pv {f : Nat} {h : VH} (ps : List (Int × Int)) : optAll (dV (f + 2) h) (ps.map pv) = some (ps.map pD) := optAll_mem fun p _ => by
  unfold pv; rw [dV_tup (f := f + 1) (ds := [.int p.1, .int p.2]) (by simp [optAll, dV_int])]; rfl
theorem closed_pv {n : Nat} (ps : List (Int × Int)) : closedVs n (ps.map pv) = true := closedVs_all fun x hx => by
  obtain ⟨i, _, rfl⟩ := List.mem_map.mp hx; rfl
theorem eqv_pD (ps : List (Int × Int)) : PyData.eqv (.list (ps.map pD)) (.list (ps.map pD)) = true := by
  rw [eqv_lst]
  exact eqvAll_refl_map fun p _ => by simp [pD, PyData.eqv, PyData.eqvAll]
/-! ### a comprehension whose kept elements fulfil something, and that changes nothing -/
section
variable {ρ : Env} {h : VH} {Q : R → VH → Prop} {ga : GE} {t : GT}
theorem lc_some {st : VH → Prop} {g : GG} {ρw : Env} {n0 : Nat} (P : VV → Prop) (xs : List VV) : ∀ (acc : List VV), st h → acc.length + xs.length ≤ 100000 → (∀ v ∈ acc, P v) →
    (∀ x ∈ xs, g x ρw fun ρ1 => t ρ1 h fun b h1 => if b = true then ga ρ1 h1 fun r h2 => put r h2 fun v h3 => P v ∧ h3 = h else h1 = h) →
    (∀ vs, (∀ v ∈ vs, P v) → vs.length ≤ acc.length + xs.length → Q (.new (.lst vs)) h) →
    (mono : ∀ x ρ (A B : Env → Prop), (∀ ρ, A ρ → B ρ) → g x ρ A → g x ρ B) →
    lcL n0 st g t ga ρw Q xs acc h := by
  induction xs with
  | nil => exact fun acc hst _ hp _ q _ => ⟨hst, q acc hp (by simp)⟩
  | cons x xs ih =>
    intro acc hst hl hp hs q mono
    rw [List.length_cons] at hl
    refine ⟨hst, mono x ρw _ _ (fun ρ1 q1 => ?_) (hs x (by simp))⟩
    refine ⟨fun o h3 => match o with
      | some v => P v ∧ h3 = h
      | none => h3 = h, q1, fun v h3 e => ?_, fun h1 e => ?_⟩
    · obtain ⟨e1, rfl⟩ := e
      refine ⟨Nat.lt_of_lt_of_le (show acc.length < 100001 by omega) (by decide), h3, .inl rfl, ih (acc ++ [v]) hst (by simp; omega) (fun y hy => (List.mem_append.mp hy).elim (hp y) (fun z => by rw [List.mem_singleton.mp z]; exact e1)) (fun y hy => hs y (by simp [hy])) (fun vs hv hn => q vs hv (by simp at hn ⊢; omega)) mono⟩
    · cases e
      exact ih acc hst (by omega) hp (fun y hy => hs y (by simp [hy])) (fun vs hv hn => q vs hv (by simp; omega)) mono
theorem lc_fm {st : VH → Prop} {g : GG} {ρw : Env} {n0 : Nat} (f : VV → Option VV) (xs : List VV) : ∀ (acc : List VV), st h → acc.length + xs.length ≤ 100000 →
    (∀ x ∈ xs, g x ρw fun ρ1 => t ρ1 h fun b h1 => if b = true then ga ρ1 h1 fun r h2 => put r h2 fun v h3 => f x = some v ∧ h3 = h else f x = none ∧ h1 = h) →
    Q (.new (.lst (acc ++ xs.filterMap f))) h →
    (mono : ∀ x ρ (A B : Env → Prop), (∀ ρ, A ρ → B ρ) → g x ρ A → g x ρ B) →
    lcL n0 st g t ga ρw Q xs acc h := by
  induction xs with
  | nil => exact fun acc hst _ _ q _ => ⟨hst, by simpa using q⟩
  | cons x xs ih =>
    intro acc hst hl hs q mono
    rw [List.length_cons] at hl
    refine ⟨hst, mono x ρw _ _ (fun ρ1 q1 => ?_) (hs x (by simp))⟩
    refine ⟨fun o h3 => match o with
      | some v => f x = some v ∧ h3 = h
      | none => f x = none ∧ h3 = h, q1, fun v h3 e => ?_, fun h1 e => ?_⟩
    · obtain ⟨e1, rfl⟩ := e
      rw [List.filterMap_cons, e1] at q
      refine ⟨Nat.lt_of_lt_of_le (show acc.length < 100001 by omega) (by decide), h3, .inl rfl, ih (acc ++ [v]) hst (by simp; omega) (fun y hy => hs y (by simp [hy])) (by simpa using q) mono⟩
    · obtain ⟨e1, rfl⟩ := e
      rw [List.filterMap_cons, e1] at q
      exact ih acc hst (by omega) (fun y hy => hs y (by simp [hy])) q mono
theorem lc_go {st : VH → Prop} {g : GG} {ρw : Env} {n0 : Nat} (Inv : Nat → List VV → VH → Prop) : ∀ (xs : List VV) (k : Nat) (acc : List VV) (h : VH), (∀ i acc h, Inv i acc h → st h) → acc.length + xs.length ≤ 100000 → Inv k acc h →
    (∀ i x acc h, xs[i]? = some x → Inv (k + i) acc h → g x ρw fun ρ1 => t ρ1 h fun b h1 => if b = true then ga ρ1 h1 fun r h2 => put r h2 fun v h3 => ∃ h4, FgtL n0 (acc ++ [v]) h3 h4 ∧ Inv (k + i + 1) (acc ++ [v]) h4 else Inv (k + i + 1) acc h1) →
    (∀ acc h, Inv (k + xs.length) acc h → Q (.new (.lst acc)) h) →
    (mono : ∀ x ρ (A B : Env → Prop), (∀ ρ, A ρ → B ρ) → g x ρ A → g x ρ B) →
    lcL n0 st g t ga ρw Q xs acc h
  | [], k, acc, h, hst, _, hi, _, q, _ => ⟨hst _ _ _ hi, q _ _ hi⟩
  | x :: xs, k, acc, h, hst, hl, hi, hs, q, mono => by
    rw [List.length_cons] at hl
    have next : ∀ acc h, acc.length + xs.length ≤ 100000 → Inv (k + 1) acc h → lcL n0 st g t ga ρw Q xs acc h := fun acc h hl hi =>
      lc_go Inv xs (k + 1) acc h hst hl hi (fun i x acc h e q => by
        have := hs (i + 1) x acc h (by simpa using e) (by rw [show k + (i + 1) = k + 1 + i by omega]; exact q)
        rw [show k + (i + 1) = k + 1 + i by omega] at this
        exact this) (fun acc h q2 => q acc h (by rw [List.length_cons, show k + (xs.length + 1) = k + 1 + xs.length by omega]; exact q2)) mono
    refine ⟨hst _ _ _ hi, mono x ρw _ _ (fun ρ1 q1 => ?_) (hs 0 x acc h rfl hi)⟩
    refine ⟨fun o h3 => match o with
      | some v => ∃ h4, FgtL n0 (acc ++ [v]) h3 h4 ∧ Inv (k + 1) (acc ++ [v]) h4
      | none => Inv (k + 1) acc h3, q1, fun v h3 e => ?_, fun h1 e => ?_⟩
    · obtain ⟨h4, e1, e2⟩ := e
      exact ⟨Nat.lt_of_lt_of_le (show acc.length < 100001 by omega) (by decide), h4, e1, next _ _ (by simp; omega) e2⟩
    · exact next _ _ (by omega) e
end
end VL

set_option autoImplicit false
namespace VL
open PySem L2
/-! ### two clauses -/
section
variable {ρ : Env} {h B : VH} {Q : R → VH → Prop} {ga : GE} {t t1 : GT}
theorem t_lc2 {gi gi1 : GI} {g g1 : GG} {vs vs1 : List Nat} (q : gi ρ h fun xs st h1 => lcO h1.length (fun h => st h) g t gi1 g1 t1 ga (wipeV ρ vs) vs1 Q xs (h1 ++ [.lst []])) : gLc2 gi g t gi1 g1 t1 ga vs vs1 ρ h Q := q
theorem snoc_get {o : VO} : (B ++ [o])[B.length]? = some o := by simp
theorem snoc_set {o p : VO} : (B ++ [o]).set B.length p = B ++ [p] := set_top B []
theorem lcI_map {n1 : Nat} {st : VH → Prop} {g : GG} {ρw : Env} {k : VH → Prop} (f : VV → VV) : ∀ (ys acc : List VV), (∀ h, st h) → acc.length + ys.length ≤ 100000 →
    (∀ y ∈ ys, ∀ acc, g y ρw fun ρ1 => t ρ1 (B ++ [.lst acc]) fun b h1 => if b = true then ga ρ1 h1 fun r h2 => put r h2 fun v h3 => v = f y ∧ h3 = B ++ [.lst acc] else False) →
    k (B ++ [.lst (acc ++ ys.map f)]) → (mono : ∀ x ρ (A B : Env → Prop), (∀ ρ, A ρ → B ρ) → g x ρ A → g x ρ B) → lcI B.length n1 st g t ga ρw k ys (B ++ [.lst acc])
  | [], acc, hst, _, _, hk, _ => ⟨hst _, by simpa using hk⟩
  | y :: ys, acc, hst, hl, hs, hk, mono => by
    rw [List.length_cons] at hl
    refine ⟨hst _, mono y ρw _ _ (fun ρ1 q1 => ?_) (hs y (by simp) acc)⟩
    refine ⟨fun o h3 => match o with
      | some v => v = f y ∧ h3 = B ++ [.lst acc]
      | none => False, q1, fun v h3 e => ?_, fun h1 e => e.elim⟩
    obtain ⟨rfl, rfl⟩ := e
    refine ⟨acc, snoc_get, Nat.lt_of_lt_of_le (show acc.length < 100001 by omega) (by decide), _, .inl rfl, ?_⟩
    rw [snoc_set]
    exact lcI_map f ys (acc ++ [f y]) hst (by simp; omega) (fun z hz => hs z (by simp [hz])) (by simpa using hk) mono
theorem lcO_map {st : VH → Prop} {g g1 : GG} {gi1 : GI} {ρw : Env} {vs1 : List Nat} (F : VV → List VV) : ∀ (xs acc : List VV), (∀ h, st h) →
    (∀ x ∈ xs, ∀ acc, (acc.length ≤ 50000) → g x ρw fun ρ1 => t ρ1 (B ++ [.lst acc]) fun b h1 => if b = true then gi1 ρ1 h1 fun ys st1 h2 => lcI B.length h2.length st1 g1 t1 ga (wipeV ρ1 vs1) (fun h3 => h3 = B ++ [.lst (acc ++ F x)]) ys h2 else h1 = B ++ [.lst (acc ++ F x)]) →
    (acc ++ xs.flatMap F).length ≤ 50000 →
    fin B.length Q (.val (.ref B.length)) (B ++ [.lst (acc ++ xs.flatMap F)]) → (mono : ∀ x ρ (A B : Env → Prop), (∀ ρ, A ρ → B ρ) → g x ρ A → g x ρ B) → lcO B.length st g t gi1 g1 t1 ga ρw vs1 Q xs (B ++ [.lst acc])
  | [], acc, hst, _, _, q, _ => ⟨hst _, by simpa using q⟩
  | x :: xs, acc, hst, hs, hl, q, mono => by
    have hl2 : acc.length ≤ 50000 := by rw [List.length_append] at hl; omega
    refine ⟨hst _, mono x ρw _ _ (fun ρ1 q1 => ?_) (hs x (by simp) acc hl2)⟩
    refine ⟨fun h3 => h3 = B ++ [.lst (acc ++ F x)], q1, fun h3 e => ?_⟩
    subst e
    exact ⟨_, .inl rfl, lcO_map F xs (acc ++ F x) hst (fun z hz => hs z (by simp [hz])) (by simpa using hl) (by simpa using q) mono⟩
/-- a kept list of a comprehension that goes out -/
theorem fin_top {xs : List VV} (c : closedH B.length B) (cx : closedVs B.length xs = true) (q : Q (.new (.lst xs)) B) : fin B.length Q (.val (.ref B.length)) (B ++ [.lst xs]) := by
  refine ⟨_, _, .out (k := B.length) B.length (Nat.le_refl _) ?_ (Nat.le_refl _) snoc_get cx, ?_⟩
  · rw [List.take_left]; exact c
  · rw [List.take_left]; exact q
theorem finO {n0 : Nat} {ns : List Int} {s : Ur} {r : VH} {xs : List VV} (e : n0 = r.length + 2) (c : Cl r) (cx : closedVs (r.length + 2) xs = true) (q : Q (.new (.lst xs)) (TH ns s r)) : fin n0 Q (.val (.ref (r.length + 2))) (TH ns s (r ++ [.lst xs])) := by
  subst e
  exact fin_top (B := TH ns s r) (th_closed c (show 1 ≤ r.length + 2 by omega)) cx q
end
/-! ### sums of lines -/
def rs (rows : List (List Int)) (i : Nat) : Int := (rows.getD i []).sum
def cs (rows : List (List Int)) (j : Nat) : Int := (rows.map fun x => x.getD j 0).sum
def lsum (n : Nat) (rows : List (List Int)) (k : Nat) : Int := if k < n then rs rows k else cs rows (k - n)
def sums (n : Nat) (rows : List (List Int)) : List Int := (List.range (2 * n)).map (lsum n rows)
def colF (i : Nat) : VV → Option VV
  | .tup xs => xs[i]?
  | _ => none
theorem col_map {i : Nat} : ∀ {rows : List (List Int)}, (∀ x ∈ rows, i < x.length) → (rows.map fun x => VV.tup (x.map .int)).filterMap (colF i) = (rows.map fun x => x.getD i 0).map .int
  | [], _ => rfl
  | x :: rows, h => by
    have hx := h x (by simp)
    rw [List.map_cons, List.filterMap_cons]
    have e : colF i (VV.tup (x.map .int)) = some (.int (x.getD i 0)) := by simp [colF, hx, List.getD_eq_getElem?_getD]
    rw [e, col_map (fun y hy => h y (by simp [hy]))]; rfl
/-- the k-th line -/
def lin (n : Nat) (k : Nat) : Int × Int := if k < n then (0, (k : Int)) else (1, ((k - n : Nat) : Int))
theorem rs_of {rows : List (List Int)} {i : Nat} {x : List Int} (h : rows[i]? = some x) : rs rows i = x.sum := by
  unfold rs; rw [List.getD_eq_getElem?_getD, h]; rfl
theorem sums_len {n : Nat} {rows : List (List Int)} : (sums n rows).length = 2 * n := by simp [sums]
theorem sums_get {n k : Nat} {rows : List (List Int)} (h : k < 2 * n) : (sums n rows)[k]? = some (lsum n rows k) := by simp [sums, h]
theorem sums_succ {n k : Nat} {rows : List (List Int)} (h : k < 2 * n) : (sums n rows).take (k + 1) = (sums n rows).take k ++ [lsum n rows k] := by
  rw [List.take_add_one, sums_get h]; rfl
theorem lsum_lin {n k : Nat} {rows : List (List Int)} (h : k < 2 * n) : ∃ i : Nat, i < n ∧ (lin n k).2 = i ∧ ((lin n k).1 = 0 ∧ lsum n rows k = rs rows i ∨ (lin n k).1 = 1 ∧ lsum n rows k = cs rows i) ∧ (lin n k).1 = (k : Int) / n ∧ (lin n k).2 = (k : Int) % n := by
  unfold lin lsum
  have hn : (0 : Int) < n := by omega
  by_cases c : k < n
  · rw [if_pos c, if_pos c]
    refine ⟨k, c, rfl, .inl ⟨rfl, rfl⟩, ?_, ?_⟩
    · exact (Int.ediv_eq_zero_of_lt (by omega) (by omega)).symm
    · exact (Int.emod_eq_of_lt (by omega) (by omega)).symm
  · rw [if_neg c, if_neg c]
    have e : (k : Int) = ((k - n : Nat) : Int) + n := by omega
    refine ⟨k - n, by omega, rfl, .inr ⟨rfl, rfl⟩, ?_, ?_⟩
    · show (1 : Int) = _
      rw [e, Int.add_ediv_of_dvd_right (Int.dvd_refl _), Int.ediv_self (by omega), Int.ediv_eq_zero_of_lt (by omega) (by omega)]; rfl
    · show ((k - n : Nat) : Int) = _
      rw [e, Int.add_emod_right, Int.emod_eq_of_lt (by omega) (by omega)]
/-- the first greatest of the first k -/
structure Bst (f : Nat → Int) (k i : Nat) : Prop where
  le : ∀ j, j < k → f j ≤ f i
  lt : ∀ j, j < i → f j < f i
theorem Bst.step {f : Nat → Int} {k i : Nat} (b : Bst f k i) (h : f i < f k) : Bst f (k + 1) k := ⟨fun j hj => by
  by_cases c : j = k
  · rw [c]; exact Int.le_refl _
  · exact Int.le_of_lt (Int.lt_of_le_of_lt (b.le j (by omega)) h), fun j hj => Int.lt_of_le_of_lt (b.le j hj) h⟩
theorem Bst.stay {f : Nat → Int} {k i : Nat} (b : Bst f k i) (h : ¬ f i < f k) : Bst f (k + 1) i := ⟨fun j hj => by
  by_cases c : j = k
  · rw [c]; omega
  · exact b.le j (by omega), b.lt⟩
theorem sum_take_succ {l : List Int} {i : Nat} {c : Int} (h : l[i]? = some c) : (l.take (i + 1)).sum = (l.take i).sum + c := by
  rw [List.take_add_one, h]; simp
theorem foldl_max {m : Int} : ∀ (l : List Int) (a : Int), a ≤ m → (∀ x ∈ l, x ≤ m) → (a = m ∨ m ∈ l) → l.foldl max a = m
  | [], a, _, _, h => by simpa using h
  | x :: l, a, ha, hl, h => by
    rw [List.foldl_cons]
    have hx := hl x (by simp)
    refine foldl_max l (max a x) (by omega) (fun y hy => hl y (by simp [hy])) ?_
    rcases h with rfl | h
    · left; omega
    · rcases List.mem_cons.mp h with rfl | h
      · left; omega
      · exact .inr h
theorem mxL_of {l : List Int} {m : Int} (h : m ∈ l) (hl : ∀ x ∈ l, x ≤ m) : mxL l = m := by
  cases l with
  | nil => simp at h
  | cons x l =>
    refine foldl_max l x (hl x (by simp)) (fun y hy => hl y (by simp [hy])) ?_
    rcases List.mem_cons.mp h with e | e
    · exact .inl e.symm
    · exact .inr e
theorem mxL_sums {n f : Nat} {rows : List (List Int)} (b : Bst (lsum n rows) (2 * n) f) (h : f < 2 * n) : mxL (sums n rows) = lsum n rows f := by
  refine mxL_of (List.mem_of_getElem? (sums_get h)) fun x hx => ?_
  obtain ⟨j, hj, rfl⟩ := List.mem_map.mp hx
  exact b.le j (List.mem_range.mp hj)
theorem findIdx_first {α : Type} {p : α → Bool} : ∀ {l : List α} {f : Nat} {a : α}, l[f]? = some a → p a = true → (∀ j b, j < f → l[j]? = some b → p b = false) → l.findIdx? p = some f
  | [], f, a, h, _, _ => by simp at h
  | x :: l, 0, a, h, hp, _ => by simp at h; subst h; simp [List.findIdx?_cons, hp]
  | x :: l, f + 1, a, h, hp, hj => by
    rw [List.findIdx?_cons, hj 0 x (by omega) rfl, findIdx_first (l := l) (f := f) (a := a) (by simpa using h) hp (fun j b h1 h2 => hj (j + 1) b (by omega) (by simpa using h2))]
    rfl
theorem idx_sums {n f : Nat} {rows : List (List Int)} (b : Bst (lsum n rows) (2 * n) f) (h : f < 2 * n) : ((sums n rows).map PyData.int).findIdx? (fun z => PyData.eqv z (.int (lsum n rows f))) = some f := by
  refine findIdx_first (a := .int (lsum n rows f)) (by rw [List.getElem?_map, sums_get h]; rfl) (by rw [eqv_int]; simp) (fun j c hj e => ?_)
  rw [List.getElem?_map, sums_get (by omega)] at e
  cases e
  rw [eqv_int]
  have := b.lt j hj
  simp; omega
theorem atI_sums {n k : Nat} {rows : List (List Int)} (h : k < 2 * n) : atI ((sums n rows).map VV.int) (k : Int) = some (.int (lsum n rows k)) := by
  rw [atI_ofInt (by omega) (by rw [List.length_map, sums_len]; omega), Int.toNat_natCast, List.getElem?_map, sums_get h]; rfl
theorem t_mx {h : VH} {Q : R → VH → Prop} {k : Nat} {ns : List Int} (e1 : h[k]? = some (.lst (ns.map VV.int))) (hl : 0 < ns.length) (q : Q (.val (.int (mxL ns))) h) : guMax (.val (.ref k)) h Q := by
  have e : lintsOf h (.val (.ref k)) = some ns := by unfold lintsOf lstOf; simp only [e1, Option.bind_some, intsOf_map]
  unfold guMax; rw [e]; exact ⟨hl, q⟩
theorem t_idxmax {ρ : Env} {h : VH} {Q : R → VH → Prop} {a k f : Nat} {ns : List Int} (e : ρ[a]? = some (some (.ref k))) (e1 : h[k]? = some (.lst (ns.map VV.int))) (hl : 0 < ns.length) (ei : (ns.map PyData.int).findIdx? (fun z => PyData.eqv z (.int (mxL ns))) = some f) (q : Q (.val (.int (f : Nat))) h) : gIdx (gV a) (gCall1 guMax (gV a)) ρ h Q := by
  refine t_V e ⟨⟨_, seq_lst e1, by unfold lstOf; simp only [e1]⟩, ?_⟩
  refine t_call1 (t_V e (t_mx e1 hl ?_))
  show match dR h (.val (.ref k)), dV 20 h (.int (mxL ns)) with
    | some (.list ds), some d => match ds.findIdx? (fun z => PyData.eqv z d) with
      | some j => Q (.val (.int (j : Nat))) h
      | none => False
    | _, _ => False
  rw [dR_ref e1 (optAll_ints ns), dV_int]
  simp only [ei]
  exact q
end VL

set_option autoImplicit false
namespace VL
open PySem L2
section
variable {K : PySem.W.Frag} {m m' : List Addr} {H H' : Hp} {h h' : VH} {ρ : Env} {σ : St} {X : Cx} {a b c : Expr} {ga gb gc : GE} {gr : GA} {pos : Pos}
/-- xs.insert(i, v), xs a kept list -/
def gIns (ga : GE) (gr : GA) : GE := fun ρ h Q => ga ρ h fun r h1 => match r with
  | .val (.ref n) => (∃ xs, h1[n]? = some (.lst xs)) ∧ gr ρ h1 fun vs h3 => match vs with
    | [.int i, v] => match h3[n]? with
      | some (.lst xs) => (xs.length < sizeLine ∧ 0 ≤ i ∧ i < 2 ^ 63) ∧ Q (.val .non) (h3.set n (.lst (xs.take i.toNat ++ [v] ++ xs.drop i.toNat)))
      | _ => False
    | _ => False
  | _ => False
theorem minsert {apos cpos : Pos} (ha : MX X a ga) (hb : MA X [b, c] gr) (h1 : attributeBase a "insert" X.env (eval a X.env) = eval a X.env := by rfl)
    (h2 : (((backTo cpos (starEach [b, c] X.env)).all (fun x => !x.1) && (backToKw cpos (keywordEach [] X.env)).all (fun x => x.1.isSome)) && decide (([b, c].length + ([] : List Keyword).length + if ([] : List Keyword).isEmpty = true then 0 else 1) < 30)) = true := by rfl)
    (h3 : (apos.endLine == cpos.line) = true := by rfl) (hs : starEach [b, c] X.env = (false, eval b X.env) :: starEach [c] X.env := by rfl) (hp : (backTo cpos (starEach [c] X.env)).any (·.1) = false := by rfl) : MX X (.Call (.Attribute a "insert" apos) [b, c] [] cpos) (gIns ga gr) := by
  obtain ⟨t, a1, a2⟩ := ha.ex
  obtain ⟨u, b1, b2⟩ := hb.ex
  refine ⟨_, pe_bm PySem.F.plainAttrs_list PySem.F.slot_list_insert PySem.F.type_list_insert mt_insert a1 b1 h1 h2 h3 hs hp, fun m h H ρ σ QV Q rh re hg k => a2 m h H ρ σ _ _ rh re hg fun m1 H1 h1 r x p q => ?_⟩
  split at q
  · rename_i n
    obtain ⟨⟨xs0, h0⟩, q⟩ := q
    obtain ⟨pa, ys0, rfl, hp0, h20, _⟩ := kept_lst p.rh h0 p.rr
    refine ⟨.inl ⟨rfl, ys0, .of h20⟩, b2 m1 h1 H1 ρ σ _ _ p.rh (re.mono p.ev) q fun m3 H3 h3 vs ys e3 r3 t3 q3 => ?_⟩
    split at q3
    · rename_i i v
      obtain ⟨y1, y2, rfl, u1, u2⟩ := rels2 t3
      cases RelT.int_inv u1
      split at q3
      · rename_i xs hn
        obtain ⟨⟨l1, i0, i1⟩, q3⟩ := q3
        have hp3 := e3.pre _ _ hp0
        obtain ⟨zs, z1, z2⟩ := r3.obj n _ pa hn hp3
        obtain ⟨e4, r4⟩ := rh_setlst (xs.take i.toNat ++ [v] ++ xs.drop i.toNat) (zs.take i.toNat ++ [y2] ++ zs.drop i.toNat) r3 hn hp3 (((z2.take _).append (Rels.nil.cons u2)).append (z2.drop _))
        exact ⟨pa, zs, i, y2, rfl, rfl, z1, by rw [← z2.len]; exact l1, i0, i1, k m3 _ _ (.val .non) .non ⟨(p.ev.trans e3).trans e4, r4, RelT.non, fun _ _ z => (nomatch z)⟩ q3⟩
      · exact q3.elim
    · exact q3.elim
  · exact q.elim
def kIns (gr : GA) (ρ : Env) (Q : R → VH → Prop) (r : R) (h1 : VH) : Prop := match r with
  | .val (.ref n) => (∃ xs, h1[n]? = some (.lst xs)) ∧ gr ρ h1 fun vs h3 => match vs with
    | [.int i, v] => match h3[n]? with
      | some (.lst xs) => (xs.length < sizeLine ∧ 0 ≤ i ∧ i < 2 ^ 63) ∧ Q (.val .non) (h3.set n (.lst (xs.take i.toNat ++ [v] ++ xs.drop i.toNat)))
      | _ => False
    | _ => False
  | _ => False
variable {Q : R → VH → Prop}
theorem t_ins (q : ga ρ h fun r h1 => kIns gr ρ Q r h1) : gIns ga gr ρ h Q := q
def kIns2 (n : Nat) (Q : R → VH → Prop) (vs : List VV) (h3 : VH) : Prop := match vs with
    | [.int i, v] => match h3[n]? with
      | some (.lst xs) => (xs.length < sizeLine ∧ 0 ≤ i ∧ i < 2 ^ 63) ∧ Q (.val .non) (h3.set n (.lst (xs.take i.toNat ++ [v] ++ xs.drop i.toNat)))
      | _ => False
    | _ => False
theorem t_kins {n : Nat} {xs : List VV} (e : h[n]? = some (.lst xs)) (q : gr ρ h fun vs h3 => kIns2 n Q vs h3) : kIns gr ρ Q (.val (.ref n)) h := ⟨⟨xs, e⟩, q⟩
theorem t_kins2 {n : Nat} {xs : List VV} {i : Int} {v : VV} (e : h[n]? = some (.lst xs)) (l : xs.length ≤ 1000 ∧ 0 ≤ i ∧ i < 2 ^ 63) (q : Q (.val .non) (h.set n (.lst (xs.take i.toNat ++ [v] ++ xs.drop i.toNat)))) : kIns2 n Q [.int i, v] h := by
  unfold kIns2; simp only [e]; exact ⟨⟨Nat.lt_of_le_of_lt l.1 (by decide), l.2⟩, q⟩
end
end VL

set_option autoImplicit false
namespace VL
open PySem L2
/-! ### sums, turned tables, rows in another order -/
def aij (rows : List (List Int)) (i j : Nat) : Int := (rows.getD i []).getD j 0
def turned (n : Nat) (rows : List (List Int)) : List (List Int) := (List.range n).map fun j => (List.range n).map fun i => aij rows i j
def mixed (os : List Nat) (rows : List (List Int)) : List (List Int) := os.map fun i => rows.getD i []
theorem range_getD {α : Type} (d : α) {l : List α} {n : Nat} (h : l.length = n) : (List.range n).map (fun i => l.getD i d) = l := by
  refine List.ext_getElem (by simp [h]) fun i h1 h2 => ?_
  simp [List.getD_eq_getElem?_getD, h2]
theorem sum_add (f g : Nat → Int) : ∀ l : List Nat, (l.map fun j => f j + g j).sum = (l.map f).sum + (l.map g).sum
  | [] => rfl
  | x :: l => by simp only [List.map_cons, List.sum_cons]; rw [sum_add f g l]; omega
theorem sum_zero : ∀ l : List Nat, (l.map fun _ => (0 : Int)).sum = 0
  | [] => rfl
  | x :: l => by simp only [List.map_cons, List.sum_cons]; rw [sum_zero l]; rfl
theorem sum_both {n : Nat} : ∀ {rows : List (List Int)}, (∀ x ∈ rows, x.length = n) → (rows.map List.sum).sum = ((List.range n).map fun j => (rows.map fun x => x.getD j 0).sum).sum
  | [], _ => by simp [sum_zero]
  | x :: rows, h => by
    simp only [List.map_cons, List.sum_cons]
    rw [sum_add (fun j => x.getD j 0) (fun j => (rows.map fun x => x.getD j 0).sum), range_getD 0 (h x (by simp)), sum_both (fun y hy => h y (by simp [hy]))]
theorem rs_list {n : Nat} {rows : List (List Int)} (h : rows.length = n) : (List.range n).map (rs rows) = rows.map List.sum := by
  have e : (List.range n).map (rs rows) = ((List.range n).map fun i => rows.getD i []).map List.sum := by rw [List.map_map]; rfl
  rw [e, range_getD [] h]
theorem sum_rc {n : Nat} {m : Int} {rows : List (List Int)} (T : Tab n m rows) : ((List.range n).map (rs rows)).sum = ((List.range n).map (cs rows)).sum := by
  rw [rs_list T.len, sum_both T.row]; rfl
theorem range_get {α : Type} (g : Nat → α) (d : α) {n i : Nat} (h : i < n) : ((List.range n).map g).getD i d = g i := by
  simp [List.getD_eq_getElem?_getD, h]
theorem cs_turned {n i : Nat} {m : Int} {rows : List (List Int)} (T : Tab n m rows) (h : i < n) : cs (turned n rows) i = rs rows i := by
  unfold cs turned
  rw [List.map_map]
  have e : (List.range n).map ((fun x => List.getD x i 0) ∘ fun j => (List.range n).map fun i => aij rows i j) = (List.range n).map fun j => (rows.getD i []).getD j 0 := List.map_congr_left fun j _ => range_get (fun i => aij rows i j) 0 h
  have hr : (rows.getD i []).length = n := by
    have hi : i < rows.length := by rw [T.len]; exact h
    rw [List.getD_eq_getElem?_getD, List.getElem?_eq_getElem hi]
    exact T.row _ (List.getElem_mem hi)
  rw [e, range_getD 0 hr]; rfl
theorem rs_turned {n j : Nat} {m : Int} {rows : List (List Int)} (T : Tab n m rows) (h : j < n) : rs (turned n rows) j = cs rows j := by
  unfold rs turned
  rw [range_get (fun j => (List.range n).map fun i => aij rows i j) [] h]
  have e : (List.range n).map (fun i => aij rows i j) = ((List.range n).map fun i => rows.getD i []).map fun x => x.getD j 0 := by rw [List.map_map]; rfl
  rw [e, range_getD [] T.len]; rfl
theorem mem_getD {n : Nat} {m : Int} {rows : List (List Int)} (T : Tab n m rows) {i : Nat} (h : i < n) : rows.getD i [] ∈ rows := by
  have hi : i < rows.length := by rw [T.len]; exact h
  rw [List.getD_eq_getElem?_getD, List.getElem?_eq_getElem hi]
  exact List.getElem_mem hi
theorem mem_getD2 {n : Nat} {m : Int} {rows : List (List Int)} (T : Tab n m rows) {i j : Nat} (h : i < n) (hj : j < n) : 0 ≤ aij rows i j ∧ aij rows i j ≤ m := by
  have hr := mem_getD T h
  have hl : j < (rows.getD i []).length := by rw [T.row _ hr]; exact hj
  unfold aij
  rw [List.getD_eq_getElem?_getD (i := j), List.getElem?_eq_getElem hl]
  exact T.pos _ hr _ (List.getElem_mem hl)
theorem tab_turned {n : Nat} {m : Int} {rows : List (List Int)} (T : Tab n m rows) : Tab n m (turned n rows) := by
  refine ⟨T.lo, T.hi, by simp [turned], fun x hx => ?_, fun x hx i hi => ?_⟩
  · obtain ⟨j, _, rfl⟩ := List.mem_map.mp hx
    simp
  · obtain ⟨j, hj, rfl⟩ := List.mem_map.mp hx
    obtain ⟨k, hk, rfl⟩ := List.mem_map.mp hi
    exact mem_getD2 T (List.mem_range.mp hk) (List.mem_range.mp hj)
theorem tab_mixed {n : Nat} {m : Int} {rows : List (List Int)} {os : List Nat} (T : Tab n m rows) (p : os.Perm (List.range n)) : Tab n m (mixed os rows) := by
  have hm : ∀ x ∈ mixed os rows, x ∈ rows := fun x hx => by
    obtain ⟨i, hi, rfl⟩ := List.mem_map.mp hx
    exact mem_getD T (List.mem_range.mp (p.mem_iff.mp hi))
  exact ⟨T.lo, T.hi, by rw [mixed, List.length_map, p.length_eq, List.length_range], fun x hx => T.row x (hm x hx), fun x hx => T.pos x (hm x hx)⟩
theorem perm_sum {l l' : List Int} (p : l.Perm l') : l.sum = l'.sum := by
  induction p with
  | nil => rfl
  | cons x _ ih => rw [List.sum_cons, List.sum_cons, ih]
  | swap x y l => simp only [List.sum_cons]; omega
  | trans _ _ a b => exact a.trans b
theorem rs_mixed {n : Nat} {m : Int} {rows : List (List Int)} {os : List Nat} (T : Tab n m rows) (p : os.Perm (List.range n)) : (List.range n).map (rs (mixed os rows)) = os.map (rs rows) := by
  rw [rs_list (tab_mixed T p).len, mixed, List.map_map]; rfl
theorem cs_mixed {n : Nat} {m : Int} {rows : List (List Int)} {os : List Nat} (T : Tab n m rows) (p : os.Perm (List.range n)) : cs (mixed os rows) = cs rows := by
  funext j
  unfold cs mixed
  rw [List.map_map, perm_sum (p.map _)]
  have e : (List.range n).map ((fun x => List.getD x j 0) ∘ fun i => rows.getD i []) = ((List.range n).map fun i => rows.getD i []).map fun x => x.getD j 0 := by rw [List.map_map]
  rw [e, range_getD [] T.len]
theorem lsum_turned {n k : Nat} {m : Int} {rows : List (List Int)} (T : Tab n m rows) (h : k < 2 * n) : ∃ k', k' < 2 * n ∧ lsum n (turned n rows) k = lsum n rows k' ∧ lsum n (turned n rows) k' = lsum n rows k := by
  by_cases c : k < n
  · refine ⟨n + k, by omega, ?_, ?_⟩
    · unfold lsum; rw [if_pos c, if_neg (by omega), Nat.add_sub_cancel_left, rs_turned T c]
    · unfold lsum; rw [if_pos c, if_neg (by omega), Nat.add_sub_cancel_left, cs_turned T c]
  · refine ⟨k - n, by omega, ?_, ?_⟩
    · unfold lsum; rw [if_neg c, if_pos (by omega), cs_turned T (by omega)]
    · unfold lsum; rw [if_neg c, if_pos (by omega), rs_turned T (by omega)]
theorem best_turned {n f f' : Nat} {m : Int} {rows : List (List Int)} (T : Tab n m rows) (hf : f < 2 * n) (hf' : f' < 2 * n) (B : Bst (lsum n rows) (2 * n) f) (B' : Bst (lsum n (turned n rows)) (2 * n) f') : lsum n (turned n rows) f' = lsum n rows f := by
  obtain ⟨k1, a1, a2, _⟩ := lsum_turned T hf'
  obtain ⟨k2, b1, _, b3⟩ := lsum_turned T hf
  have h1 := B.le k1 a1
  have h2 := B'.le k2 b1
  omega
theorem sums_split {n : Nat} {rows : List (List Int)} : sums n rows = (List.range n).map (rs rows) ++ (List.range n).map (cs rows) := by
  unfold sums
  rw [Nat.two_mul, List.range_add, List.map_append, List.map_map]
  congr 1
  · exact List.map_congr_left fun k hk => by unfold lsum; rw [if_pos (List.mem_range.mp hk)]
  · refine List.map_congr_left fun k hk => ?_
    show lsum n rows (n + k) = _
    unfold lsum; rw [if_neg (by omega), Nat.add_sub_cancel_left]
theorem ins_perm {os : List Nat} {k p : Nat} (h : os.Perm (List.range k)) : (os.take p ++ [k] ++ os.drop p).Perm (List.range (k + 1)) := by
  rw [List.append_assoc, List.singleton_append]
  refine (List.perm_middle).trans ?_
  rw [List.take_append_drop, List.range_succ]
  exact ((List.Perm.cons k h).trans (List.perm_append_singleton k (List.range k)).symm)
/-! ### what a comprehension over a range gives -/
def fmV (g : Nat → VV) : VV → Option VV
  | .int i => some (g i.toNat)
  | _ => none
theorem fm_rng (g : Nat → VV) (n : Nat) : (rng 0 n).filterMap (fmV g) = (List.range n).map g := by
  unfold rng
  rw [List.filterMap_map]
  rw [show (fmV g ∘ fun (i : Nat) => VV.int (0 + (i : Int))) = fun i => some (g i) from funext fun i => by simp [fmV]]
  rw [List.filterMap_eq_map']
section
variable {ρ : Env} {h : VH} {Q : R → VH → Prop}
theorem lst_ref {n : Nat} {xs : List VV} (e : h[n]? = some (.lst xs)) : lstOf h (.val (.ref n)) = some xs := by unfold lstOf; simp only [e]
theorem t_addLL {n k : Nat} {s z : List VV} (e1 : h[n]? = some (.lst s)) (e2 : h[k]? = some (.lst z)) (l : s.length + z.length ≤ 1000) (q : Q (.new (.lst (s ++ z))) h) : goAdd (.val (.ref n)) (.val (.ref k)) h Q := by
  unfold goAdd
  simp only [lst_ref e1, lst_ref e2]
  exact ⟨Nat.le_trans l (by decide), q⟩
theorem t_all {bs : List Bool} (e : ∀ b ∈ bs, b = true) (q : Q (.val (.bl true)) h) : guBls (fun ns => ns.all id) (.new (.lst (bs.map VV.bl))) h Q := by
  have e1 : (lstOf h (.new (.lst (bs.map VV.bl)))).bind blsOf = some bs := by unfold lstOf; simp only [Option.bind_some, blsOf_map]
  unfold guBls
  rw [e1]
  dsimp only
  rw [show bs.all id = true from List.all_eq_true.mpr (fun x hx => e x hx)]
  exact q
theorem eqv_ints (ns : List Int) : PyData.eqv (.list (ns.map PyData.int)) (.list (ns.map PyData.int)) = true := by
  rw [eqv_lst]; exact eqvAll_refl_map fun p _ => by simp [PyData.eqv]
/-- a new list against a kept one, both the same whole numbers -/
theorem t_neS {k : Nat} {ns : List Int} (e : h[k]? = some (.lst (ns.map VV.int))) (q : Q (.val (.bl false)) h) : goNe (.new (.lst (ns.map VV.int))) (.val (.ref k)) h Q := by
  refine t_ne (dR_new (optAll_ints ns)) (dR_ref e (optAll_ints ns)) ?_
  rw [eqv_ints]; exact q
theorem t_neN {ns : List Int} (q : Q (.val (.bl false)) h) : goNe (.new (.lst (ns.map VV.int))) (.new (.lst (ns.map VV.int))) h Q := by
  refine t_ne (dR_new (optAll_ints ns)) (dR_new (optAll_ints ns)) ?_
  rw [eqv_ints]; exact q
theorem t_eqS {k : Nat} {ns : List Int} (e : h[k]? = some (.lst (ns.map VV.int))) (q : Q (.val (.bl true)) h) : goEq (.new (.lst (ns.map VV.int))) (.val (.ref k)) h Q := by
  refine t_eq (dR_new (optAll_ints ns)) (dR_ref e (optAll_ints ns)) ?_
  rw [eqv_ints]; exact q
theorem t_mxN {ns : List Int} (hl : 0 < ns.length) (q : Q (.val (.int (mxL ns))) h) : guMax (.new (.lst (ns.map VV.int))) h Q := by
  have e : lintsOf h (.new (.lst (ns.map VV.int))) = some ns := by unfold lintsOf lstOf; simp only [Option.bind_some, intsOf_map]
  unfold guMax; rw [e]; exact ⟨hl, q⟩
end
end VL

set_option autoImplicit false
namespace VL
open PySem L2
section
variable {K : PySem.W.Frag} {m m' : List Addr} {H H' : Hp} {h h' : VH} {ρ : Env} {σ : St} {X : Cx} {a b c : Expr} {ga gb gc : GE} {gr : GA} {pos : Pos}
/-- a statement that is never reached -/
def gNever : GS := fun _ _ _ => False
theorem msnever {st : Stmt} : MS X st gNever := ⟨fun _ _ _ => False, ⟨fun _ _ _ _ _ _ q => q.elim⟩, fun m h H ρ σ D E rh re hg k => hg.elim⟩
/-! ### texts -/
theorem Rels.strs {ys : List Str} : ∀ {zs : List V}, Rels K m H (ys.map VV.str) zs → zs = ys.map V.str := by
  intro zs r
  have hl := r.len
  rw [List.length_map] at hl
  refine List.ext_getElem (by simp [hl]) fun i h1 h2 => ?_
  have hy : i < ys.length := by omega
  have := r.at_ i (.str ys[i]) zs[i] (by simp [hy]) (List.getElem?_eq_getElem h1)
  have e := RelT.str_inv this
  rw [e]; simp
theorem rels_strs : ∀ ys : List Str, Rels K m H (ys.map VV.str) (ys.map V.str) := fun ys => ⟨by simp, fun i x y e1 e2 => by
  rw [List.getElem?_map] at e1 e2
  cases q : ys[i]? with
  | none => rw [q] at e1; cases e1
  | some j => rw [q] at e1 e2; cases e1; cases e2; exact .str⟩
def gM0 (f : Str → VV) (ga : GE) : GE := fun ρ h Q => ga ρ h fun r h1 => match r with
  | .val (.str s) => Q (.val (f s)) h1
  | _ => False
theorem mm0 {id : String} {name : Str} {apos : Pos} {g : Str → Bool} (slot : Slot "str" name id) (ty : typeOf (.builtin id) = pure (.type "method_descriptor")) (rule : MtR X id (fun x xs H Q => ∃ a, x = .str a ∧ xs = [] ∧ True ∧ Q (.bl (g a)) H)) (ha : MX X a ga)
    (h1 : attributeBase a name X.env (eval a X.env) = eval a X.env := by rfl) (h3 : (apos.endLine == pos.line) = true := by rfl) : MX X (.Call (.Attribute a name apos) [] [] pos) (gM0 (fun s => .bl (g s)) ga) := by
  obtain ⟨t, a1, a2⟩ := ha.ex
  refine ⟨_, pe_m0 slot ty rule a1 h1 h3, fun m h H ρ σ QV Q rh re hg k => a2 m h H ρ σ _ _ rh re hg fun m1 H1 h1 r x p q => ?_⟩
  split at q
  · rename_i s
    cases RelT.str_inv p.rr
    exact ⟨⟨s, rfl⟩, s, rfl, rfl, trivial, k m1 _ h1 _ _ ((Pst.val p.rh .bl).from_ p.ev p.rh) q⟩
  · exact q.elim
theorem misdigit {apos : Pos} (ha : MX X a ga) (h1 : attributeBase a "isdigit" X.env (eval a X.env) = eval a X.env := by rfl) (h3 : (apos.endLine == pos.line) = true := by rfl) : MX X (.Call (.Attribute a "isdigit" apos) [] [] pos) (gM0 (fun s => .bl (Txt.isdigit s)) ga) :=
  mm0 PySem.F.slot_str_isdigit PySem.F.type_str_isdigit mt_isdigit ha h1 h3
theorem misascii {apos : Pos} (ha : MX X a ga) (h1 : attributeBase a "isascii" X.env (eval a X.env) = eval a X.env := by rfl) (h3 : (apos.endLine == pos.line) = true := by rfl) : MX X (.Call (.Attribute a "isascii" apos) [] [] pos) (gM0 (fun s => .bl (Txt.isascii s)) ga) :=
  mm0 PySem.F.slot_str_isascii PySem.F.type_str_isascii mt_isascii ha h1 h3
def gStarts (ga gb : GE) : GE := fun ρ h Q => ga ρ h fun r h1 => match r with
  | .val (.str s) => gb ρ h1 fun r2 h2 => match r2 with
    | .val (.str z) => Q (.val (.bl (Txt.startswith s z))) h2
    | _ => False
  | _ => False
theorem mstarts {apos : Pos} (ha : MX X a ga) (hb : MX X b gb) (hs : starEach [b] X.env = [(false, eval b X.env)] := by rfl) (h1 : attributeBase a "startswith" X.env (eval a X.env) = eval a X.env := by rfl) (h3 : (apos.endLine == pos.line) = true := by rfl) : MX X (.Call (.Attribute a "startswith" apos) [b] [] pos) (gStarts ga gb) := by
  obtain ⟨t, a1, a2⟩ := ha.ex
  obtain ⟨u, b1, b2⟩ := hb.ex
  refine ⟨_, pe_m1 PySem.F.slot_str_startswith PySem.F.type_str_startswith mt_startswith a1 b1 hs h1 h3, fun m h H ρ σ QV Q rh re hg k => a2 m h H ρ σ _ _ rh re hg fun m1 H1 h1 r x p q => ?_⟩
  split at q
  · rename_i s
    cases RelT.str_inv p.rr
    refine ⟨⟨s, rfl⟩, b2 m1 h1 H1 ρ σ _ _ p.rh (re.mono p.ev) q fun m2 H2 h2 r2 y p2 q2 => ?_⟩
    split at q2
    · rename_i z
      cases RelT.str_inv p2.rr
      exact ⟨s, z, rfl, rfl, k m2 _ h2 _ _ ((Pst.val p2.rh .bl).from_ (p.ev.trans p2.ev) p2.rh) q2⟩
    · exact q2.elim
  · exact q.elim
def gSplit (ga gb : GE) : GE := fun ρ h Q => ga ρ h fun r h1 => match r with
  | .val (.str s) => gb ρ h1 fun r2 h2 => match r2 with
    | .val (.str z) => ((z.length == 0) = false ∧ s.length + 2 ≤ sizeLine) ∧ Q (.new (.lst ((Txt.split s z).map VV.str))) h2
    | _ => False
  | _ => False
theorem msplit {apos : Pos} (ha : MX X a ga) (hb : MX X b gb) (hs : starEach [b] X.env = [(false, eval b X.env)] := by rfl) (h1 : attributeBase a "split" X.env (eval a X.env) = eval a X.env := by rfl) (h3 : (apos.endLine == pos.line) = true := by rfl) : MX X (.Call (.Attribute a "split" apos) [b] [] pos) (gSplit ga gb) := by
  obtain ⟨t, a1, a2⟩ := ha.ex
  obtain ⟨u, b1, b2⟩ := hb.ex
  refine ⟨_, pe_split a1 b1 hs h1 h3, fun m h H ρ σ QV Q rh re hg k => a2 m h H ρ σ _ _ rh re hg fun m1 H1 h1 r x p q => ?_⟩
  split at q
  · rename_i s
    cases RelT.str_inv p.rr
    refine ⟨⟨s, rfl⟩, b2 m1 h1 H1 ρ σ _ _ p.rh (re.mono p.ev) q fun m2 H2 h2 r2 y p2 q2 => ?_⟩
    split at q2
    · rename_i z
      cases RelT.str_inv p2.rr
      exact ⟨s, z, rfl, rfl, q2.1.1, q2.1.2, fun l hl => k m2 _ h2 _ _ ((Pst.lst p2.rh hl (rels_strs _)).from_ (p.ev.trans p2.ev) p2.rh) q2.2⟩
    · exact q2.elim
  · exact q.elim
def gJoin (ga gb : GE) : GE := fun ρ h Q => ga ρ h fun r h1 => match r with
  | .val (.str s) => gb ρ h1 fun r2 h2 => ∃ ys : List Str, seqOf h2 r2 = some (ys.map VV.str) ∧ (ys.map (·.length)).sum + ys.length * s.length ≤ 16777216 ∧ Q (.val (.str (Txt.join s ys))) h2
  | _ => False
theorem mjoin {apos : Pos} (ha : MX X a ga) (hb : MX X b gb) (hs : starEach [b] X.env = [(false, eval b X.env)] := by rfl) (h1 : attributeBase a "join" X.env (eval a X.env) = eval a X.env := by rfl) (h3 : (apos.endLine == pos.line) = true := by rfl) : MX X (.Call (.Attribute a "join" apos) [b] [] pos) (gJoin ga gb) := by
  obtain ⟨t, a1, a2⟩ := ha.ex
  obtain ⟨u, b1, b2⟩ := hb.ex
  refine ⟨_, pe_join a1 b1 hs h1 h3, fun m h H ρ σ QV Q rh re hg k => a2 m h H ρ σ _ _ rh re hg fun m1 H1 h1 r x p q => ?_⟩
  split at q
  · rename_i s
    cases RelT.str_inv p.rr
    refine ⟨⟨s, rfl⟩, b2 m1 h1 H1 ρ σ _ _ p.rh (re.mono p.ev) q fun m2 H2 h2 r2 y p2 q2 => ?_⟩
    obtain ⟨ys, e1, e2, q2⟩ := q2
    obtain ⟨pa, zs, rfl, h2', r'⟩ := seqOf_ok p2.rh p2.rr e1
    cases Rels.strs r'
    exact ⟨s, pa, ys, rfl, rfl, h2', e2, k m2 _ h2 _ _ ((Pst.val p2.rh .str).from_ (p.ev.trans p2.ev) p2.rh) q2⟩
  · exact q.elim
def guStrI : GU := fun x h Q => match x with
  | .val (.int i) => i.natAbs.log2 < 1920 ∧ Q (.val (.str (toString i : String))) h
  | _ => False
theorem mc_strI : MC1 X (.type "str") guStrI := by
  refine ⟨_, call_str_int, fun m h H x rx QV Q rh r1 q k => ?_⟩
  unfold guStrI at q
  split at q
  · cases RelT.int_inv r1
    exact ⟨_, rfl, q.1, k m H h _ _ (.val rh .str) q.2⟩
  · exact q.elim
def guIntS : GU := fun x h Q => match x with
  | .val (.str a) => ∃ n : Int, PySem.intText? a = some n ∧ a.length ≤ 640 ∧ Q (.val (.int n)) h
  | .val (.int i) => Q (.val (.int i)) h
  | .val (.bl b) => Q (.val (.int (if b then 1 else 0))) h
  | _ => False
theorem mc_intS : MC1 X (.type "int") guIntS := by
  refine ⟨_, CallR.or call_int_str call_int1, fun m h H x rx QV Q rh r1 q k => ?_⟩
  unfold guIntS at q
  split at q
  · cases RelT.str_inv r1
    obtain ⟨n, e1, e2, q⟩ := q
    exact .inl ⟨_, n, rfl, e1, e2, k m H h _ _ (.val rh .int) q⟩
  · cases RelT.int_inv r1
    exact .inr (.inl ⟨_, rfl, k m H h _ _ (.val rh .int) q⟩)
  · cases RelT.bl_inv r1
    exact .inr (.inr ⟨_, rfl, k m H h _ _ (.val rh .int) q⟩)
  · exact q.elim
end
end VL

set_option autoImplicit false
namespace VL
open PySem L2 TL
/-! ### a whole number's text -/
abbrev num (i : Int) : Str := (Str.ofString (toString i))
theorem num_tl {i : Int} (h : 0 ≤ i) : TL.tl (num i) = numL i.toNat := by
  obtain ⟨n, rfl⟩ : ∃ n : Nat, i = n := ⟨i.toNat, by omega⟩
  exact tl_num n
theorem numL_19 {n : Nat} (h : n ≤ 10 ^ 18) : (numL n).length ≤ 19 := numL_len (k := 19) (by decide) (by omega)
theorem num_len {i : Int} (h : 0 ≤ i) (h2 : i ≤ 1000000000000000000) : (num i).length ≤ 19 := by
  rw [len_tl, num_tl h]; exact numL_19 (by omega)
theorem num18 : (num 1000000000000000000).length = 19 := by decide +kernel
theorem num_ok {s : Str} (h : ∀ c ∈ TL.tl s, c < 128) : PyData.strOk s = true := by
  unfold PyData.strOk
  rw [← Array.all_toList]
  exact List.all_eq_true.mpr fun c hc => by have := h c hc; simp; omega
theorem num_dig {i : Int} (h : 0 ≤ i) : ∀ c ∈ TL.tl (num i), 48 ≤ c ∧ c ≤ 57 := by rw [num_tl h]; exact numL_digits _
theorem isdig : ∀ c, c < 58 → 48 ≤ c → Unicode.isDigit c = true := by decide +kernel
theorem num_isdigit {i : Int} (h : 0 ≤ i) : Txt.isdigit (num i) = true := by
  unfold Txt.isdigit
  have hl : 0 < (num i).length := by rw [len_tl, num_tl h]; exact List.length_pos_iff.mpr (numL_ne _)
  rw [← Array.all_toList]
  have h2 : (num i).cps.toList.all Unicode.isDigit = true := List.all_eq_true.mpr fun c hc => by
    have := num_dig h c hc
    exact isdig c (by omega) (by omega)
  rw [h2]
  simpa using hl
theorem num_isascii {i : Int} (h : 0 ≤ i) : Txt.isascii (num i) = true := by
  unfold Txt.isascii
  rw [← Array.all_toList]
  exact List.all_eq_true.mpr fun c hc => by have := num_dig h c hc; simp; omega
theorem num_int {i : Int} (h : 0 ≤ i) (h2 : i ≤ 1000000000000000000) : intText? (num i) = some i := by
  obtain ⟨n, rfl⟩ : ∃ n : Nat, i = n := ⟨i.toNat, by omega⟩
  have := numL_19 (n := n) (by omega)
  exact int_num (by omega)
theorem num_log {i : Int} (h : 0 ≤ i) (h2 : i ≤ 1000000000000000000) : i.natAbs.log2 < 1920 := by
  by_cases c : i.natAbs = 0
  · rw [c]; decide
  · refine (Nat.log2_lt c).mpr (Nat.lt_of_le_of_lt (m := 10 ^ 18) (by omega) (by decide))
theorem numL_head : ∀ n : Nat, n ≠ 0 → ∀ c l, numL n = c :: l → c ≠ 48 := by
  intro n
  induction n using Nat.strongRecOn with
  | _ n ih =>
    intro hn c l e
    by_cases h : n < 10
    · rw [numL_lt h] at e
      cases e; omega
    · rw [numL_step (by omega)] at e
      cases q : numL (n / 10) with
      | nil => exact absurd q (numL_ne _)
      | cons d r =>
        rw [q] at e
        cases e
        exact ih (n / 10) (by omega) (by omega) c r q
theorem starts_pre {x y : Str} (hy : TL.tl y ≠ []) : Txt.startswith x y = pre (TL.tl y) (TL.tl x) := by
  have e := at_iff (x := x) (y := y) hy 0
  rw [List.drop_zero] at e
  have e2 : Txt.startswith x y = true ↔ PySem.StrLaws.At x y x.length 0 := by
    unfold Txt.startswith PySem.StrLaws.At
    rw [Bool.and_eq_true, decide_eq_true_eq]
  cases h1 : Txt.startswith x y with
  | true => exact (e.mp (e2.mp h1)).symm
  | false =>
    cases h2 : pre (TL.tl y) (TL.tl x) with
    | true => rw [e2.mpr (e.mpr h2)] at h1; exact h1.symm
    | false => rfl
theorem num_starts {i : Int} (h : 0 < i) : Txt.startswith (num i) "0" = false := by
  rw [starts_pre (by decide)]
  have e := num_tl (i := i) (by omega)
  rw [e]
  cases q : numL i.toNat with
  | nil => exact absurd q (numL_ne _)
  | cons c l =>
    have := numL_head i.toNat (by omega) c l q
    exact pre_of_head (s := 48) [] l this
/-! ### a row's text, a table's text -/
abbrev sp1 : Str := " "
abbrev sp3 : Str := " / "
def rowT (row : List Int) : Str := Txt.join sp1 (row.map num)
def tabT (rows : List (List Int)) : Str := Txt.join sp3 (rows.map rowT)
theorem tl_sp1 : TL.tl sp1 = [32] := by decide +kernel
theorem tl_sp3 : TL.tl sp3 = [32, 47, 32] := by decide +kernel
theorem joinL_mem {S : List Nat} {c : Nat} : ∀ {parts : List (List Nat)}, c ∈ joinL S parts → c ∈ S ∨ ∃ p ∈ parts, c ∈ p
  | [], h => by simp [joinL] at h
  | [p], h => .inr ⟨p, by simp, h⟩
  | p :: q :: r, h => by
    rw [joinL] at h
    rcases List.mem_append.mp h with h | h
    · exact .inr ⟨p, by simp, h⟩
    · rcases List.mem_append.mp h with h | h
      · exact .inl h
      · rcases joinL_mem h with h | ⟨z, hz, h⟩
        · exact .inl h
        · exact .inr ⟨z, by simp only [List.mem_cons] at hz ⊢; exact .inr hz, h⟩
theorem row_mem {row : List Int} (hp : ∀ i ∈ row, 0 ≤ i) {c : Nat} (h : c ∈ TL.tl (rowT row)) : c = 32 ∨ 48 ≤ c ∧ c ≤ 57 := by
  unfold rowT at h
  rw [join_eq, tl_join, tl_sp1] at h
  rcases joinL_mem h with h | ⟨p, hp1, h⟩
  · exact .inl (by simpa using h)
  · obtain ⟨s, hs, rfl⟩ := List.mem_map.mp hp1
    obtain ⟨i, hi, rfl⟩ := List.mem_map.mp hs
    exact .inr (num_dig (hp i hi) c h)
theorem tab_mem {rows : List (List Int)} (hp : ∀ x ∈ rows, ∀ i ∈ x, 0 ≤ i) {c : Nat} (h : c ∈ TL.tl (tabT rows)) : c < 128 := by
  unfold tabT at h
  rw [join_eq, tl_join, tl_sp3] at h
  rcases joinL_mem h with h | ⟨p, hp1, h⟩
  · simp at h; omega
  · obtain ⟨s, hs, rfl⟩ := List.mem_map.mp hp1
    obtain ⟨x, hx, rfl⟩ := List.mem_map.mp hs
    have := row_mem (hp x hx) h
    omega
theorem row_split {row : List Int} (hne : row ≠ []) (hp : ∀ i ∈ row, 0 ≤ i) : Txt.split (rowT row) sp1 = row.map num := by
  refine split_join (s := 32) (S := []) tl_sp1 (by decide +kernel) (by simpa using hne) fun p h => ?_
  obtain ⟨i, hi, rfl⟩ := List.mem_map.mp h
  intro hc
  have := num_dig (hp i hi) 32 hc
  omega
theorem free2 : ∀ {p q : List Nat}, 47 ∉ p → ∀ i, i < p.length → pre [32, 47, 32] ((p ++ (32 :: q)).drop i) = false
  | [], q, _, i, hi => absurd hi (by simp)
  | [c], q, _, 0, _ => by simp [pre]
  | c :: d :: p, q, h, 0, _ => by
    have : d ≠ 47 := fun e => h (by simp [e])
    simp [pre, this]
  | c :: p, q, h, i + 1, hi => by
    rw [List.cons_append, List.drop_succ_cons]
    exact free2 (fun e => h (by simp [e])) i (by simpa using hi)
theorem free3 : ∀ {p : List Nat}, 47 ∉ p → ∀ i, i < p.length → pre [32, 47, 32] (p.drop i) = false
  | [], _, i, hi => absurd hi (by simp)
  | [c], _, 0, _ => by simp [pre]
  | c :: d :: p, h, 0, _ => by
    have : d ≠ 47 := fun e => h (by simp [e])
    simp [pre, this]
  | c :: p, h, i + 1, hi => by
    rw [List.drop_succ_cons]
    exact free3 (fun e => h (by simp [e])) i (by simpa using hi)
theorem spl_join3 : ∀ {parts : List (List Nat)}, parts ≠ [] → (∀ p ∈ parts, 47 ∉ p) → spl [32, 47, 32] 0 [] (joinL [32, 47, 32] parts) = parts
  | [], h, _ => absurd rfl h
  | [p], _, hp => by
    show spl [32, 47, 32] 0 [] p = [p]
    rw [spl_last (free3 (hp p (by simp))), List.nil_append]
  | p :: q :: r, _, hp => by
    show spl [32, 47, 32] 0 [] (p ++ ([32, 47, 32] ++ joinL [32, 47, 32] (q :: r))) = p :: q :: r
    rw [spl_part (by simp) (free2 (hp p (by simp))), List.nil_append, spl_join3 (by simp) fun z hz => hp z (List.mem_cons_of_mem _ hz)]
theorem tab_split {rows : List (List Int)} (hne : rows ≠ []) (hp : ∀ x ∈ rows, ∀ i ∈ x, 0 ≤ i) : Txt.split (tabT rows) sp3 = rows.map rowT := by
  refine map_tl_inj ?_
  unfold tabT
  rw [split_spl _ sp3 (by rw [tl_sp3]; simp) (kind_ok (by decide +kernel)), join_eq, tl_join, tl_sp3]
  refine spl_join3 (by simpa using hne) fun p h => ?_
  obtain ⟨z, hz, rfl⟩ := List.mem_map.mp h
  obtain ⟨x, hx, rfl⟩ := List.mem_map.mp hz
  intro hc
  have := row_mem (hp x hx) hc
  omega
theorem sum_le {B : Nat} : ∀ {l : List Nat}, (∀ x ∈ l, x ≤ B) → l.sum ≤ l.length * B
  | [], _ => by simp
  | x :: l, h => by
    have h1 := h x (by simp)
    have h2 := sum_le (B := B) (l := l) fun y hy => h y (by simp [hy])
    rw [List.sum_cons, List.length_cons, Nat.succ_mul]; omega
theorem row_lens {row : List Int} (hp : ∀ i ∈ row, 0 ≤ i ∧ i ≤ 1000000000000000000) (hl : row.length ≤ 6) : ((row.map num).map (·.length)).sum + (row.map num).length * sp1.length ≤ 120 := by
  have h1 : ((row.map num).map (·.length)).sum ≤ ((row.map num).map (·.length)).length * 19 := sum_le fun x hx => by
    obtain ⟨s, hs, rfl⟩ := List.mem_map.mp hx
    obtain ⟨i, hi, rfl⟩ := List.mem_map.mp hs
    exact num_len (hp i hi).1 (hp i hi).2
  have h2 : sp1.length = 1 := by decide +kernel
  simp only [List.length_map] at h1 ⊢
  rw [h2]; omega
theorem row_len {row : List Int} (hp : ∀ i ∈ row, 0 ≤ i ∧ i ≤ 1000000000000000000) (hl : row.length ≤ 6) : (rowT row).length ≤ 120 := by
  unfold rowT; rw [join_eq]
  exact Nat.le_trans (PySem.StrLaws.join_length_le _ _) (row_lens hp hl)
theorem tab_lens {n : Nat} {m : Int} {rows : List (List Int)} (T : Tab n m rows) (hm : m ≤ 1000000000000000000) : ((rows.map rowT).map (·.length)).sum + (rows.map rowT).length * sp3.length ≤ 1000 := by
  have n6 := T.hi
  have h1 : ((rows.map rowT).map (·.length)).sum ≤ ((rows.map rowT).map (·.length)).length * 120 := sum_le fun x hx => by
    obtain ⟨s, hs, rfl⟩ := List.mem_map.mp hx
    obtain ⟨r, hr, rfl⟩ := List.mem_map.mp hs
    exact row_len (fun i hi => by have := T.pos r hr i hi; omega) (by rw [T.row r hr]; omega)
  have h2 : sp3.length = 3 := by decide +kernel
  simp only [List.length_map, T.len] at h1 ⊢
  rw [h2]; omega
theorem tab_len {n : Nat} {m : Int} {rows : List (List Int)} (T : Tab n m rows) (hm : m ≤ 1000000000000000000) : (tabT rows).length ≤ 1000 := by
  unfold tabT; rw [join_eq]
  exact Nat.le_trans (PySem.StrLaws.join_length_le _ _) (tab_lens T hm)
theorem join_snoc (y z : Str) : ∀ {xs : List Str}, xs ≠ [] → Txt.join y (xs ++ [z]) = Txt.join y xs ++ y ++ z := by
  intro xs h
  simp only [join_eq]
  induction xs with
  | nil => exact absurd rfl h
  | cons x xs ih =>
    cases xs with
    | nil => rfl
    | cons w r =>
      show x ++ y ++ Str.join y ((w :: r) ++ [z]) = x ++ y ++ Str.join y (w :: r) ++ y ++ z
      rw [ih (by simp)]
      exact ext_tl (by simp only [tl_append, List.append_assoc])
theorem tab_len6 {rows : List (List Int)} (hr : ∀ x ∈ rows, x.length ≤ 6) (hp : ∀ x ∈ rows, ∀ i ∈ x, 0 ≤ i ∧ i ≤ 1000000000000000000) (hl : rows.length ≤ 6) : (tabT rows).length ≤ 1000 := by
  have h1 : ((rows.map rowT).map (·.length)).sum ≤ ((rows.map rowT).map (·.length)).length * 120 := sum_le fun x hx => by
    obtain ⟨s, hs, rfl⟩ := List.mem_map.mp hx
    obtain ⟨r, h, rfl⟩ := List.mem_map.mp hs
    exact row_len (hp r h) (hr r h)
  have h2 : sp3.length = 3 := by decide +kernel
  unfold tabT; rw [join_eq]
  refine Nat.le_trans (PySem.StrLaws.join_length_le _ _) ?_
  simp only [List.length_map] at h1 ⊢
  rw [h2]; omega
theorem tabT_nil : tabT [] = ("" : Str) := by decide +kernel
theorem tabT_snoc {rows : List (List Int)} {x : List Int} (h : rows ≠ []) : tabT (rows ++ [x]) = tabT rows ++ sp3 ++ rowT x := by
  unfold tabT
  rw [List.map_append]
  exact join_snoc sp3 (rowT x) (by simpa using h)
theorem tabT_one (x : List Int) : ("" : Str) ++ rowT x = tabT ([] ++ [x]) := by
  have e : tabT ([] ++ [x]) = rowT x := by unfold tabT; rw [join_eq]; rfl
  rw [e]
  refine ext_tl ?_
  rw [tl_append]
  have : TL.tl ("" : Str) = [] := by decide +kernel
  rw [this]; rfl
section
variable {ρ : VL.Env} {h : VH} {Q : R → VH → Prop} {ga gb : GE}
def kJoin2 (s : Str) (Q : R → VH → Prop) (r2 : R) (h2 : VH) : Prop := ∃ ys : List Str, seqOf h2 r2 = some (ys.map VV.str) ∧ (ys.map (·.length)).sum + ys.length * s.length ≤ 16777216 ∧ Q (.val (.str (Txt.join s ys))) h2
def kJoin (gb : GE) (ρ : VL.Env) (Q : R → VH → Prop) (r : R) (h1 : VH) : Prop := match r with
  | .val (.str s) => gb ρ h1 fun r2 h2 => kJoin2 s Q r2 h2
  | _ => False
theorem t_join (q : ga ρ h fun r h1 => kJoin gb ρ Q r h1) : gJoin ga gb ρ h Q := q
theorem t_kjoin {s : Str} (q : gb ρ h fun r2 h2 => kJoin2 s Q r2 h2) : kJoin gb ρ Q (.val (.str s)) h := q
def kSplit2 (s : Str) (Q : R → VH → Prop) (r2 : R) (h2 : VH) : Prop := match r2 with
    | .val (.str z) => ((z.length == 0) = false ∧ s.length + 2 ≤ sizeLine) ∧ Q (.new (.lst ((Txt.split s z).map VV.str))) h2
    | _ => False
def kSplit (gb : GE) (ρ : VL.Env) (Q : R → VH → Prop) (r : R) (h1 : VH) : Prop := match r with
  | .val (.str s) => gb ρ h1 fun r2 h2 => kSplit2 s Q r2 h2
  | _ => False
theorem t_split (q : ga ρ h fun r h1 => kSplit gb ρ Q r h1) : gSplit ga gb ρ h Q := q
theorem t_ksplit {s : Str} (q : gb ρ h fun r2 h2 => kSplit2 s Q r2 h2) : kSplit gb ρ Q (.val (.str s)) h := q
theorem t_ksplit2 {s z : Str} (l : (z.length == 0) = false ∧ s.length + 2 ≤ sizeLine) (q : Q (.new (.lst ((Txt.split s z).map VV.str))) h) : kSplit2 s Q (.val (.str z)) h := ⟨l, q⟩
def kM0 (f : Str → VV) (Q : R → VH → Prop) (r : R) (h1 : VH) : Prop := match r with
  | .val (.str s) => Q (.val (f s)) h1
  | _ => False
theorem t_m0 {f : Str → VV} (q : ga ρ h fun r h1 => kM0 f Q r h1) : gM0 f ga ρ h Q := q
theorem t_km0 {f : Str → VV} {s : Str} (q : Q (.val (f s)) h) : kM0 f Q (.val (.str s)) h := q
def kSt2 (s : Str) (Q : R → VH → Prop) (r2 : R) (h2 : VH) : Prop := match r2 with
    | .val (.str z) => Q (.val (.bl (Txt.startswith s z))) h2
    | _ => False
def kSt (gb : GE) (ρ : VL.Env) (Q : R → VH → Prop) (r : R) (h1 : VH) : Prop := match r with
  | .val (.str s) => gb ρ h1 fun r2 h2 => kSt2 s Q r2 h2
  | _ => False
theorem t_starts (q : ga ρ h fun r h1 => kSt gb ρ Q r h1) : gStarts ga gb ρ h Q := q
theorem t_kst {s : Str} (q : gb ρ h fun r2 h2 => kSt2 s Q r2 h2) : kSt gb ρ Q (.val (.str s)) h := q
theorem t_kst2 {s z : Str} (q : Q (.val (.bl (Txt.startswith s z))) h) : kSt2 s Q (.val (.str z)) h := q
theorem t_strI {i : Int} (l : i.natAbs.log2 < 1920) (q : Q (.val (.str (num i))) h) : guStrI (.val (.int i)) h Q := ⟨l, q⟩
theorem t_intS {a : Str} {n : Int} (e : intText? a = some n) (l : a.length ≤ 640) (q : Q (.val (.int n)) h) : guIntS (.val (.str a)) h Q := ⟨n, e, l, q⟩
theorem t_intI {i : Int} (q : Q (.val (.int i)) h) : guIntS (.val (.int i)) h Q := q
theorem t_intB {b : Bool} (q : Q (.val (.int (if b then 1 else 0))) h) : guIntS (.val (.bl b)) h Q := q
theorem t_lenT {s : Str} (l : s.length ≤ 1000) (q : Q (.val (.int (s.length : Int))) h) : guLen (.val (.str s)) h Q := ⟨Nat.le_trans l (by decide), q⟩
theorem dR_str {s : Str} (e : PyData.strOk s = true) : dR h (.val (.str s)) = some (.str s) := by
  show dV 20 h (.str s) = _
  rw [dV]; simp only [e]; rfl
theorem dR_tv (rows : List (List Int)) : dR h (.val (tv rows)) = some (.tuple (rows.map fun x => .tuple (x.map .int))) :=
  dR_tup (optAll_mem fun x _ => dV_tup (f := 18) (optAll_ints x))
theorem eqv_tv (rows : List (List Int)) : PyData.eqv (.tuple (rows.map fun x => .tuple (x.map .int))) (.tuple (rows.map fun x => .tuple (x.map .int))) = true := by
  rw [eqv_tup]
  exact eqvAll_refl_map fun x _ => by rw [eqv_tup]; exact eqvAll_refl_map fun i _ => by simp [PyData.eqv]
end
end VL

set_option autoImplicit false
namespace VL
open PySem L2 RZ
section
variable {K : PySem.W.Frag} {m m' : List Addr} {H H' : Hp} {h h' : VH} {ρ : VL.Env} {σ : St} {X : Cx} {a b c : Expr} {ga gb gc : GE} {gr : GA} {pos : Pos}
/-! ### zip of two lists or two tuples -/
def zipV (xs ys : List VV) : List VV := List.zipWith (fun x y => VV.tup [x, y]) xs ys
theorem zipV_len {xs ys : List VV} : (zipV xs ys).length = min xs.length ys.length := by simp [zipV]
theorem zipV_get {xs ys : List VV} {i : Nat} {v : VV} (e : (zipV xs ys)[i]? = some v) : ∃ x y, xs[i]? = some x ∧ ys[i]? = some y ∧ v = .tup [x, y] := by
  unfold zipV at e
  rw [List.getElem?_zipWith] at e
  cases q : xs[i]? with
  | none => rw [q] at e; cases e
  | some x =>
    cases q2 : ys[i]? with
    | none => rw [q, q2] at e; cases e
    | some y => rw [q, q2] at e; cases e; exact ⟨x, y, rfl, rfl, rfl⟩
theorem pair_new2 {T : Addr} {x y : V} {v w : VV} {Hh : Hp} {m2 : List Addr} {h2 : VH} (hT : Hh T = none) (r : RH K m2 h2 Hh) (rv : RelT K m2 Hh v x) (rw_ : RelT K m2 Hh w y) :
    Ev K m2 m2 Hh (upd Hh T (.tup [x, y])) ∧ RH K m2 h2 (upd Hh T (.tup [x, y])) ∧ RelT K m2 (upd Hh T (.tup [x, y])) (.tup [v, w]) (.ref T) := by
  have p := Pst.tup (K := K) r hT (Rels.nil.cons rw_ |>.cons rv)
  exact ⟨p.ev, p.rh, p.rr⟩
theorem walkV_zipT {p1 p2 : Addr} {xs ys : List VV} {us vs : List V} (s1 : H p1 = some (.tup us)) (r1 : Rels K m H xs us) (s2 : H p2 = some (.tup vs)) (r2 : Rels K m H ys vs) : WalkV K m H (ItzT K p1 p2) (zipV xs ys) (fun _ => True) := by
  refine ⟨fun Hh => SqT K Hh p1 us ∧ SqT K Hh p2 vs, fun i Hh v Hg => ∃ T x z, v = .ref T ∧ Hh T = none ∧ Hg = upd Hh T (.tup [x, z]) ∧ us[i]? = some x ∧ vs[i]? = some z, ⟨fun i Hh hi q => ?_, fun Hh q => ?_, fun i Hh x Hg _ q y => ?_⟩, fun m2 h2 H2 e _ _ => ⟨.of (e.tk _ _ s1), .of (e.tk _ _ s2)⟩, fun i Hh x Hg m2 h2 y e rr _ v hv => ?_⟩
  · rw [zipV_len] at hi
    have h1 : i < us.length := by rw [← r1.len]; omega
    have h2 : i < vs.length := by rw [← r2.len]; omega
    exact ⟨us, vs, us[i], vs[i], q.1, q.2, by simp [h1], by simp [h2]⟩
  · exact ⟨us, vs, q.1, q.2, by rw [zipV_len, r1.len, r2.len]; omega⟩
  · obtain ⟨T, x, z, h1, h2, h3, h4, h5⟩ := y
    exact ⟨T, x, z, h1, h2, h3, h4 us q.1, h5 vs q.2⟩
  · obtain ⟨T, x, z, rfl, hT, rfl, y1, y2⟩ := y
    obtain ⟨v1, v2, e1, e2, rfl⟩ := zipV_get hv
    exact pair_new2 hT rr ((r1.at_ i v1 x e1 y1).mono e) ((r2.at_ i v2 z e2 y2).mono e)
theorem walkV_zipL {p1 p2 : Addr} {xs ys : List VV} {st : VH → Prop} (hst : ∀ m2 h2 H2, Ev K m m2 H H2 → RH K m2 h2 H2 → st h2 → ∃ us vs, SqL K H2 p1 us ∧ Rels K m2 H2 xs us ∧ SqL K H2 p2 vs ∧ Rels K m2 H2 ys vs) : WalkV K m H (Itz K p1 p2) (zipV xs ys) st := by
  refine ⟨fun Hh => ∃ us vs, SqL K Hh p1 us ∧ SqL K Hh p2 vs ∧ us.length = xs.length ∧ vs.length = ys.length, fun i Hh v Hg => ∃ T x z, v = .ref T ∧ Hh T = none ∧ Hg = upd Hh T (.tup [x, z]) ∧ (∀ us, SqL K Hh p1 us → us[i]? = some x) ∧ (∀ vs, SqL K Hh p2 vs → vs[i]? = some z), ⟨fun i Hh hi ⟨us, vs, q1, q2, l1, l2⟩ => ?_, fun Hh ⟨us, vs, q1, q2, l1, l2⟩ => ?_, fun i Hh x Hg _ q y => y⟩, fun m2 h2 H2 e r s => ?_, fun i Hh x Hg m2 h2 y e rr s v hv => ?_⟩
  · rw [zipV_len] at hi
    have h1 : i < us.length := by omega
    have h2 : i < vs.length := by omega
    exact ⟨us, vs, us[i], vs[i], q1, q2, by simp [h1], by simp [h2]⟩
  · exact ⟨us, vs, q1, q2, by rw [zipV_len]; omega⟩
  · obtain ⟨us, vs, q1, q2, q3, q4⟩ := hst m2 h2 H2 e r s
    exact ⟨us, vs, q1, q3, q2.len.symm, q4.len.symm⟩
  · obtain ⟨T, x, z, rfl, hT, rfl, y1, y2⟩ := y
    obtain ⟨us, vs, q1, q2, q3, q4⟩ := hst m2 h2 _ e rr s
    obtain ⟨v1, v2, e1, e2, rfl⟩ := zipV_get hv
    exact pair_new2 hT rr (q2.at_ i v1 x e1 (y1 us q1)) (q4.at_ i v2 z e2 (y2 vs q3))
def giZip (gr : GA) : GI := fun ρ h Q => gr ρ h fun vs h1 => match vs with
  | [.tup xs, .tup ys] => Q (zipV xs ys) (fun _ => True) h1
  | [.ref n, .ref k] => ∃ xs ys, h1[n]? = some (.lst xs) ∧ h1[k]? = some (.lst ys) ∧ Q (zipV xs ys) (fun h2 => h2[n]? = some (.lst xs) ∧ h2[k]? = some (.lst ys)) h1
  | _ => False
theorem miz {p pos tpos : Pos} {elts : List Expr} {kk : Nat} (hm : X.mg "zip" = none) (ha : MA X [a, b] gr) (hg : Gl X "zip" := by rfl)
    (hs : starEach [a, b] X.env = (false, eval a X.env) :: starEach [b] X.env := by rfl) (hpl : (backTo pos (starEach [b] X.env)).any (·.1) = false := by rfl) :
    MI X (.Tuple elts kk tpos) (.Call (.Name "zip" p) [a, b] [] pos) (giZip gr) := by
  obtain ⟨t, a1, a2⟩ := ha.ex
  refine ⟨_, pi_zipA hg hm a1 hs hpl, fun m h H ρ σ QV R rh re hg k => a2 m h H ρ σ _ _ rh re hg fun m1 H1 h1 vs ws e1 r1 t1 q => ?_⟩
  split at q
  · rename_i xs ys
    obtain ⟨y1, y2, rfl, u1, u2⟩ := rels2 t1
    obtain ⟨pa, us, rfl, s1, l1, z1⟩ := RelT.tup_raw u1
    obtain ⟨pb, vs, rfl, s2, l2, z2⟩ := RelT.tup_raw u2
    exact ⟨pa, pb, us, vs, rfl, .inr ⟨.of s1, .of s2, k m1 H1 h1 _ _ _ e1 r1 (walkV_zipT s1 ⟨l1, z1⟩ s2 ⟨l2, z2⟩) q⟩⟩
  · rename_i n j
    obtain ⟨xs, ys, hn, hj, q⟩ := q
    obtain ⟨y1, y2, rfl, u1, u2⟩ := rels2 t1
    obtain ⟨pa, rfl, ea⟩ := RelT.ref_inv u1
    obtain ⟨pb, rfl, eb⟩ := RelT.ref_inv u2
    obtain ⟨us, c1, c2⟩ := r1.obj n _ pa hn ea
    obtain ⟨vs, d1, d2⟩ := r1.obj j _ pb hj eb
    refine ⟨pa, pb, us, vs, rfl, .inl ⟨.of c1, .of d1, k m1 H1 h1 _ _ _ e1 r1 (walkV_zipL fun m2 h2 H2 e2 r2 s2 => ?_) q⟩⟩
    obtain ⟨us', c1', c2'⟩ := r2.obj n _ pa s2.1 (e2.pre _ _ ea)
    obtain ⟨vs', d1', d2'⟩ := r2.obj j _ pb s2.2 (e2.pre _ _ eb)
    exact ⟨us', vs', .of c1', c2', .of d1', d2'⟩
  · exact q.elim
def kZip (Q : List VV → (VH → Prop) → VH → Prop) (vs : List VV) (h1 : VH) : Prop := match vs with
  | [.tup xs, .tup ys] => Q (zipV xs ys) (fun _ => True) h1
  | [.ref n, .ref k] => ∃ xs ys, h1[n]? = some (.lst xs) ∧ h1[k]? = some (.lst ys) ∧ Q (zipV xs ys) (fun h2 => h2[n]? = some (.lst xs) ∧ h2[k]? = some (.lst ys)) h1
  | _ => False
variable {QI : List VV → (VH → Prop) → VH → Prop}
theorem t_zip (q : gr ρ h fun vs h1 => kZip QI vs h1) : giZip gr ρ h QI := q
theorem t_kzipT {xs ys : List VV} (q : QI (zipV xs ys) (fun _ => True) h) : kZip QI [.tup xs, .tup ys] h := q
theorem t_kzipL {n k : Nat} {xs ys : List VV} (e1 : h[n]? = some (.lst xs)) (e2 : h[k]? = some (.lst ys)) (q : QI (zipV xs ys) (fun h2 => h2[n]? = some (.lst xs) ∧ h2[k]? = some (.lst ys)) h) : kZip QI [.ref n, .ref k] h := ⟨xs, ys, e1, e2, q⟩
end
end VL

set_option autoImplicit false
namespace VL
/-! ### pairings and lines: no pairing has more cells than lines that hold all its cells -/
theorem nodup_le {β : Type} [DecidableEq β] : ∀ (l L : List β), l.Nodup → (∀ x ∈ l, x ∈ L) → l.length ≤ L.length
  | [], _, _, _ => Nat.zero_le _
  | x :: l, L, h, s => by
    have hx : x ∈ L := s x (by simp)
    have hn := List.nodup_cons.mp h
    have h1 := nodup_le l (L.erase x) hn.2 fun y hy => by
      have ne : y ≠ x := fun e => hn.1 (by rw [← e]; exact hy)
      exact (List.mem_erase_of_ne ne).mpr (s y (by simp [hy]))
    have h2 := List.length_erase_of_mem hx
    have h3 := List.length_pos_of_mem hx
    rw [List.length_cons]; omega
theorem cells_le {cs L : List (Nat × Nat)} (hr : (cs.map Prod.fst).Nodup) (hc : (cs.map Prod.snd).Nodup) (cov : ∀ c ∈ cs, (0, c.1) ∈ L ∨ (1, c.2) ∈ L) : cs.length ≤ L.length := by
  have h := nodup_le (cs.map fun c => if (0, c.1) ∈ L then (0, c.1) else (1, c.2)) L ?_ ?_
  · simpa using h
  · unfold List.Nodup at hr hc ⊢
    rw [List.pairwise_map] at hr hc ⊢
    refine (hr.and hc).imp fun {a b} q => ?_
    intro e
    by_cases ha : (0, a.1) ∈ L
    · rw [if_pos ha] at e
      by_cases hb : (0, b.1) ∈ L
      · rw [if_pos hb] at e; exact q.1 (Prod.mk.inj e).2
      · rw [if_neg hb] at e; exact absurd (Prod.mk.inj e).1 (by decide)
    · rw [if_neg ha] at e
      by_cases hb : (0, b.1) ∈ L
      · rw [if_pos hb] at e; exact absurd (Prod.mk.inj e).1 (by decide)
      · rw [if_neg hb] at e; exact q.2 (Prod.mk.inj e).2
  · intro x hx
    obtain ⟨c, hcm, rfl⟩ := List.mem_map.mp hx
    by_cases h : (0, c.1) ∈ L
    · rw [if_pos h]; exact h
    · rw [if_neg h]; exact (cov c hcm).resolve_left h
end VL

set_option autoImplicit false
namespace VL
open PySem L2
section
variable {K : PySem.W.Frag} {m m' : List Addr} {H H' : Hp} {h h' : VH} {ρ : VL.Env} {σ : St} {X : Cx} {a b c : Expr} {ga gb gc : GE} {gr : GA} {pos : Pos}
theorem Rels.dropLast {xs : List VV} {ys : List V} (r : Rels K m H xs ys) : Rels K m H xs.dropLast ys.dropLast := by
  rw [List.dropLast_eq_take, List.dropLast_eq_take, ← r.len]
  exact r.take _
theorem Rels.reverse {xs : List VV} {ys : List V} (r : Rels K m H xs ys) : Rels K m H xs.reverse ys.reverse := ⟨by simp [r.len], fun i x y e1 e2 => by
  have h1 := (List.getElem?_eq_some_iff.mp e1).1
  rw [List.length_reverse] at h1
  rw [List.getElem?_reverse h1] at e1
  rw [List.getElem?_reverse (by rw [← r.len]; exact h1), ← r.len] at e2
  exact r.at_ _ x y e1 e2⟩
theorem Rels.eraseIdx {xs : List VV} {ys : List V} (r : Rels K m H xs ys) (k : Nat) : Rels K m H (xs.eraseIdx k) (ys.eraseIdx k) := by
  rw [List.eraseIdx_eq_take_drop_succ, List.eraseIdx_eq_take_drop_succ]
  exact (r.take _).append (r.drop _)
/-- a method of a kept list without arguments: what it gives and what the list is then -/
def gLm0 (f : List VV → Option (VV × List VV)) (ga : GE) : GE := fun ρ h Q => ga ρ h fun r h1 => match r with
  | .val (.ref n) => match h1[n]? with
    | some (.lst xs) => match f xs with
      | some (v, zs) => Q (.val v) (h1.set n (.lst zs))
      | none => False
    | _ => False
  | _ => False
abbrev gPop (ga : GE) : GE := gLm0 (fun xs => xs[xs.length - 1]?.map fun v => (v, xs.dropLast)) ga
theorem mpop {apos : Pos} (ha : MX X a ga) (h1 : attributeBase a "pop" X.env (eval a X.env) = eval a X.env := by rfl) (h3 : (apos.endLine == pos.line) = true := by rfl) : MX X (.Call (.Attribute a "pop" apos) [] [] pos) (gPop ga) := by
  obtain ⟨t, a1, a2⟩ := ha.ex
  refine ⟨_, pe_bm0 PySem.F.plainAttrs_list PySem.F.slot_list_pop PySem.F.type_list_pop mt_pop a1 h1 h3, fun m h H ρ σ QV Q rh re hg k => a2 m h H ρ σ _ _ rh re hg fun m1 H1 h1 r x p q => ?_⟩
  split at q
  · rename_i n
    split at q
    · rename_i xs hn
      split at q
      · rename_i v zs hf
        obtain ⟨pa, ys, rfl, hp, z1, z2⟩ := kept_lst p.rh hn p.rr
        cases e : xs[xs.length - 1]? with
        | none => simp [e] at hf
        | some w =>
          simp [e] at hf
          obtain ⟨rfl, rfl⟩ := hf
          have hl := (List.getElem?_eq_some_iff.mp e).1
          have hy : ys[ys.length - 1]? = some (ys[ys.length - 1]'(by have := z2.len; omega)) := List.getElem?_eq_getElem _
          have ty := z2.at_ (xs.length - 1) w _ e (by rw [z2.len]; exact hy)
          obtain ⟨e4, r4⟩ := rh_setlst xs.dropLast ys.dropLast p.rh hn hp z2.dropLast
          exact ⟨.inl ⟨rfl, ys, .of z1⟩, pa, ys, _, rfl, rfl, z1, hy, k m1 _ _ (.val w) _ ⟨p.ev.trans e4, r4, ty.mono e4, fun _ _ z => (nomatch z)⟩ q⟩
      · exact q.elim
    · exact q.elim
  · exact q.elim
abbrev gClear (ga : GE) : GE := gLm0 (fun _ => some (.non, [])) ga
theorem mclear {apos : Pos} (ha : MX X a ga) (h1 : attributeBase a "clear" X.env (eval a X.env) = eval a X.env := by rfl) (h3 : (apos.endLine == pos.line) = true := by rfl) : MX X (.Call (.Attribute a "clear" apos) [] [] pos) (gClear ga) := by
  obtain ⟨t, a1, a2⟩ := ha.ex
  refine ⟨_, pe_bm0 PySem.F.plainAttrs_list PySem.F.slot_list_clear PySem.F.type_list_clear mt_clear a1 h1 h3, fun m h H ρ σ QV Q rh re hg k => a2 m h H ρ σ _ _ rh re hg fun m1 H1 h1 r x p q => ?_⟩
  split at q
  · rename_i n
    split at q
    · rename_i xs hn
      split at q
      · rename_i v zs hf
        cases hf
        obtain ⟨pa, ys, rfl, hp, z1, z2⟩ := kept_lst p.rh hn p.rr
        obtain ⟨e4, r4⟩ := rh_setlst [] [] p.rh hn hp .nil
        exact ⟨.inl ⟨rfl, ys, .of z1⟩, pa, ys, rfl, rfl, z1, k m1 _ _ (.val .non) .non ⟨p.ev.trans e4, r4, .non, fun _ _ z => (nomatch z)⟩ q⟩
      · exact q.elim
    · exact q.elim
  · exact q.elim
abbrev gReverse (ga : GE) : GE := gLm0 (fun xs => some (.non, xs.reverse)) ga
theorem mreverse {apos : Pos} (ha : MX X a ga) (h1 : attributeBase a "reverse" X.env (eval a X.env) = eval a X.env := by rfl) (h3 : (apos.endLine == pos.line) = true := by rfl) : MX X (.Call (.Attribute a "reverse" apos) [] [] pos) (gReverse ga) := by
  obtain ⟨t, a1, a2⟩ := ha.ex
  refine ⟨_, pe_bm0 PySem.F.plainAttrs_list PySem.F.slot_list_reverse PySem.F.type_list_reverse mt_reverse a1 h1 h3, fun m h H ρ σ QV Q rh re hg k => a2 m h H ρ σ _ _ rh re hg fun m1 H1 h1 r x p q => ?_⟩
  split at q
  · rename_i n
    split at q
    · rename_i xs hn
      split at q
      · rename_i v zs hf
        cases hf
        obtain ⟨pa, ys, rfl, hp, z1, z2⟩ := kept_lst p.rh hn p.rr
        obtain ⟨e4, r4⟩ := rh_setlst xs.reverse ys.reverse p.rh hn hp z2.reverse
        exact ⟨.inl ⟨rfl, ys, .of z1⟩, pa, ys, rfl, rfl, z1, k m1 _ _ (.val .non) .non ⟨p.ev.trans e4, r4, .non, fun _ _ z => (nomatch z)⟩ q⟩
      · exact q.elim
    · exact q.elim
  · exact q.elim
/-- xs.pop(i) -/
def gPopAt (ga gb : GE) : GE := fun ρ h Q => ga ρ h fun r h1 => match r with
  | .val (.ref n) => (∃ xs, h1[n]? = some (.lst xs)) ∧ gb ρ h1 fun s h3 => match s with
    | .val (.int i) => match h3[n]? with
      | some (.lst xs) => match seqIndex? i xs.length with
        | some j => match xs[j]? with
          | some v => (-(2 ^ 63) ≤ i ∧ i < 2 ^ 63) ∧ Q (.val v) (h3.set n (.lst (xs.eraseIdx j)))
          | none => False
        | none => False
      | _ => False
    | _ => False
  | _ => False
theorem mpopAt {apos : Pos} (ha : MX X a ga) (hb : MX X b gb) (h1 : attributeBase a "pop" X.env (eval a X.env) = eval a X.env := by rfl)
    (h2 : (((backTo pos (starEach [b] X.env)).all (fun x => !x.1) && (backToKw pos (keywordEach [] X.env)).all (fun x => x.1.isSome)) && decide (([b].length + ([] : List Keyword).length + if ([] : List Keyword).isEmpty = true then 0 else 1) < 30)) = true := by rfl)
    (h3 : (apos.endLine == pos.line) = true := by rfl) (hs : starEach [b] X.env = [(false, eval b X.env)] := by rfl) : MX X (.Call (.Attribute a "pop" apos) [b] [] pos) (gPopAt ga gb) := by
  obtain ⟨t, a1, a2⟩ := ha.ex
  obtain ⟨u, b1, b2⟩ := hb.ex
  refine ⟨_, pe_bm PySem.F.plainAttrs_list PySem.F.slot_list_pop PySem.F.type_list_pop mt_popAt a1 (pa_cons b1 pa_nil hs) h1 h2 h3 hs rfl, fun m h H ρ σ QV Q rh re hg k => a2 m h H ρ σ _ _ rh re hg fun m1 H1 h1 r x p q => ?_⟩
  split at q
  · rename_i n
    obtain ⟨⟨xs0, h0⟩, q⟩ := q
    obtain ⟨pa, ys0, rfl, hp0, h20, _⟩ := kept_lst p.rh h0 p.rr
    refine ⟨.inl ⟨rfl, ys0, .of h20⟩, b2 m1 h1 H1 ρ σ _ _ p.rh (re.mono p.ev) q fun m3 H3 h3 s y p3 q3 => ?_⟩
    split at q3
    · rename_i i
      cases RelT.int_inv p3.rr
      split at q3
      · rename_i xs hn
        split at q3
        · rename_i j hj
          split at q3
          · rename_i v hv
            have hp3 := p3.ev.pre _ _ hp0
            obtain ⟨ys, z1, z2⟩ := p3.rh.obj n _ pa hn hp3
            have hjl : j < ys.length := by rw [← z2.len]; exact (List.getElem?_eq_some_iff.mp hv).1
            have ty := z2.at_ j v _ hv (List.getElem?_eq_getElem hjl)
            obtain ⟨e4, r4⟩ := rh_setlst (xs.eraseIdx j) (ys.eraseIdx j) p3.rh hn hp3 (z2.eraseIdx j)
            exact ⟨pa, ys, i, j, _, rfl, rfl, z1, q3.1.1, q3.1.2, by rw [← z2.len]; exact hj, List.getElem?_eq_getElem hjl, k m3 _ _ (.val v) _ ⟨(p.ev.trans p3.ev).trans e4, r4, ty.mono e4, fun _ _ z => (nomatch z)⟩ q3.2⟩
          · exact q3.elim
        · exact q3.elim
      · exact q3.elim
    · exact q3.elim
  · exact q.elim
def guAbs : GU := fun x h Q => match x with
  | .val (.int i) => Q (.val (.int (if i < 0 then -i else i))) h
  | _ => False
theorem mc_abs : MC1 X (.builtin "abs") guAbs := by
  refine ⟨_, call_abs, fun m h H x rx QV Q rh r1 q k => ?_⟩
  unfold guAbs at q
  split at q
  · cases RelT.int_inv r1
    exact ⟨_, rfl, k m H h _ _ (.val rh .int) q⟩
  · exact q.elim
end
end VL

set_option autoImplicit false
namespace VL
open PySem L2
section
variable {K : PySem.W.Frag} {m m' : List Addr} {H H' : Hp} {h h' : VH} {ρ : VL.Env} {σ : St} {X : Cx} {a b c : Expr} {ga gb gc : GE} {gr : GA} {pos : Pos}
/-- xs[::-1] of a list -/
def gRev (ga : GE) : GE := fun ρ h Q => ga ρ h fun r h1 => match lstOf h1 r with
  | some xs => Q (.new (.lst xs.reverse)) h1
  | none => False
theorem mrev {k : Nat} {p1 p2 p3 : Pos} (ha : MX X a ga) : MX X (.Subscript a (.Slice none none (some (.UnaryOp .USub (.Constant (.int 1) k p1) p2)) p3) pos) (gRev ga) := by
  obtain ⟨t, a1, a2⟩ := ha.ex
  refine ⟨_, pe_revL a1, fun m h H ρ σ QV Q rh re hg k => a2 m h H ρ σ _ _ rh re hg fun m1 H1 h1 r x p q => ?_⟩
  split at q
  · rename_i xs e
    obtain ⟨pa, ys, rfl, h2, r2⟩ := lstOf_ok p.rh p.rr e
    exact ⟨pa, ys, rfl, .of h2, fun l hl => k m1 _ h1 _ _ ((Pst.lst p.rh hl r2.reverse).from_ p.ev p.rh) q⟩
  · exact q.elim
/-- ns.count(k) of a list of whole numbers -/
def gCountL (ga gb : GE) : GE := fun ρ h Q => ga ρ h fun r h1 => (∃ xs, lstOf h1 r = some xs) ∧ gb ρ h1 fun s h3 => match s, lintsOf h3 r with
  | .val (.int k), some ns => Q (.val (.int (ns.count k : Nat))) h3
  | _, _ => False
theorem mcountL {apos : Pos} (ha : MX X a ga) (hb : MX X b gb) (h1 : attributeBase a "count" X.env (eval a X.env) = eval a X.env := by rfl)
    (h2 : (((backTo pos (starEach [b] X.env)).all (fun x => !x.1) && (backToKw pos (keywordEach [] X.env)).all (fun x => x.1.isSome)) && decide (([b].length + ([] : List Keyword).length + if ([] : List Keyword).isEmpty = true then 0 else 1) < 30)) = true := by rfl)
    (h3 : (apos.endLine == pos.line) = true := by rfl) (hs : starEach [b] X.env = [(false, eval b X.env)] := by rfl) : MX X (.Call (.Attribute a "count" apos) [b] [] pos) (gCountL ga gb) := by
  obtain ⟨t, a1, a2⟩ := ha.ex
  obtain ⟨u, b1, b2⟩ := hb.ex
  refine ⟨_, pe_bm PySem.F.plainAttrs_list PySem.F.slot_list_count PySem.F.type_list_count mt_lcount a1 (pa_cons b1 pa_nil hs) h1 h2 h3 hs rfl, fun m h H ρ σ QV Q rh re hg k => a2 m h H ρ σ _ _ rh re hg fun m1 H1 h1 r x p q => ?_⟩
  obtain ⟨⟨xs0, e0⟩, q⟩ := q
  obtain ⟨pa, ys0, rfl, h20, _⟩ := lstOf_ok p.rh p.rr e0
  refine ⟨.inl ⟨rfl, ys0, .of h20⟩, b2 m1 h1 H1 ρ σ _ _ p.rh (re.mono p.ev) q fun m3 H3 h3 s y p3 q3 => ?_⟩
  split at q3
  · rename_i i ns hn
    cases RelT.int_inv p3.rr
    obtain ⟨pb, e, h4⟩ := lintsOf_ok p3.rh (p.rr.mono p3.ev) hn
    cases e
    exact ⟨pa, ns, i, rfl, rfl, .of h4, k m3 _ h3 _ _ ((Pst.val p3.rh .int).from_ (p.ev.trans p3.ev) p3.rh) q3⟩
  · exact q3.elim
end
end VL

set_option autoImplicit false
namespace VL
open PySem L2
section
variable {K : PySem.W.Frag} {m m' : List Addr} {H H' : Hp} {h h' : VH} {ρ : VL.Env} {σ : St} {X : Cx} {a b c : Expr} {g1 g2 ga gb gc : GE} {gr : GA} {pos : Pos}
/-- one reading or the other -/
def gEither (g1 g2 : GE) : GE := fun ρ h Q => g1 ρ h Q ∨ g2 ρ h Q
theorem meither {e : Expr} (x : MX X e g1) (y : MX X e g2) : MX X e (gEither g1 g2) := by
  obtain ⟨t, a1, a2⟩ := x.ex
  obtain ⟨u, b1, b2⟩ := y.ex
  refine ⟨fun σ H Q => t σ H Q ∨ u σ H Q, ⟨fun pins s σ H Q I q => ?_⟩, fun m h H ρ σ QV Q rh re hg k => ?_⟩
  · rcases q with q | q
    · exact a1.run pins s σ H Q I q
    · exact b1.run pins s σ H Q I q
  · rcases hg with q | q
    · exact .inl (a2 m h H ρ σ QV Q rh re q k)
    · exact .inr (b2 m h H ρ σ QV Q rh re q k)
/-! ### dicts with whole numbers and texts for keys -/
def keyOf : VV → Option Key
  | .int i => some (.inl i)
  | .str s => some (.inr s)
  | _ => none
theorem keyOf_ok {v : VV} {y : V} {k : Key} (r : RelT K m H v y) (e : keyOf v = some k) : y = kV k := by
  cases v with
  | int i => cases e; cases RelT.int_inv r; rfl
  | str s => cases e; cases RelT.str_inv r; rfl
  | non => cases e
  | bl => cases e
  | tup => cases e
  | rol => cases e
  | ref => cases e
  | ftp => cases e
def valW : List Key → List VV → Key → Option VV
  | q :: ks, v :: vs, k => if q = k then some v else valW ks vs k
  | _, _, _ => none
def putW : List Key → List VV → Key → VV → List VV
  | q :: ks, w :: vs, k, v => (if q = k then v else w) :: putW ks vs k v
  | _, _, _, _ => []
theorem rels_cons {v : VV} {vs : List VV} {y : V} {ys : List V} (r : Rels K m H (v :: vs) (y :: ys)) : RelT K m H v y ∧ Rels K m H vs ys :=
  ⟨r.at_ 0 v y rfl rfl, by have := r.len; simpa using this, fun i p q e1 e2 => r.at_ (i + 1) p q (by simpa using e1) (by simpa using e2)⟩
theorem valW_ok {k : Key} {v : VV} : ∀ {kvs : List (Key × V)} {vs : List VV}, Rels K m H vs (kvs.map Prod.snd) → valW (kvs.map Prod.fst) vs k = some v → ∃ y, valV kvs k = some y ∧ RelT K m H v y
  | [], [], _, e => by cases e
  | [], _ :: _, r, _ => by have := r.len; simp at this
  | _ :: _, [], r, _ => by have := r.len; simp at this
  | p :: kvs, w :: vs, r, e => by
    obtain ⟨r1, r2⟩ := rels_cons r
    rw [List.map_cons, valW] at e
    by_cases c : p.1 = k
    · rw [if_pos c] at e
      cases e
      exact ⟨p.2, valV_pos c, r1⟩
    · rw [if_neg c] at e
      rw [valV_neg c]
      exact valW_ok r2 e
theorem putW_ok {k : Key} {v : VV} {y : V} (ry : RelT K m H v y) : ∀ {kvs : List (Key × V)} {vs : List VV}, Rels K m H vs (kvs.map Prod.snd) → Rels K m H (putW (kvs.map Prod.fst) vs k v) ((kvs.map fun kv => if kv.1 = k then (kv.1, y) else kv).map Prod.snd)
  | [], [], _ => .nil
  | [], _ :: _, r => by have := r.len; simp at this
  | _ :: _, [], r => by have := r.len; simp at this
  | p :: kvs, w :: vs, r => by
    obtain ⟨r1, r2⟩ := rels_cons r
    have ih := putW_ok (k := k) ry r2
    rw [List.map_cons, List.map_cons, List.map_cons, putW]
    by_cases c : p.1 = k
    · rw [if_pos c, if_pos c]; exact ih.cons ry
    · rw [if_neg c, if_neg c]; exact ih.cons r1
/-- d[k] of a kept dict -/
def gDGet (ga gb : GE) : GE := fun ρ h Q => ga ρ h fun r h1 => gb ρ h1 fun s h3 => match r, s with
  | .val (.ref n), .val y => match h3[n]?, keyOf y with
    | some (.dic ks vs), some k => match valW ks vs k with
      | some v => Q (.val v) h3
      | none => False
    | _, _ => False
  | _, _ => False
theorem mdget (hu : X.A.units + 1 < cLine) (ha : MX X a ga) (hb : MX X b gb) (hs : NoSl b := by exact fun _ _ => rfl) : MX X (.Subscript a b pos) (gDGet ga gb) := by
  obtain ⟨t, a1, a2⟩ := ha.ex
  obtain ⟨u, b1, b2⟩ := hb.ex
  refine ⟨_, pe_dget hu a1 b1 hs, fun m h H ρ σ QV Q rh re hg k => a2 m h H ρ σ _ _ rh re hg fun m1 H1 h1 r x p q => b2 m1 h1 H1 ρ σ _ _ p.rh (re.mono p.ev) q fun m3 H3 h3 s y p3 q3 => ?_⟩
  split at q3
  · rename_i n v
    split at q3
    · rename_i ks vs kk hn hk
      split at q3
      · rename_i w hw
        obtain ⟨pa, rfl, ea⟩ := RelT.ref_inv (RelR.mono p3.ev p.rr)
        obtain ⟨kvs, z1, z2, z3⟩ := p3.rh.obj n _ pa hn ea
        subst z2
        obtain ⟨yy, e1, e2⟩ := valW_ok z3 hw
        have e3 := keyOf_ok p3.rr hk
        subst e3
        refine ⟨pa, yy, rfl, ?_, k m3 H3 h3 (.val w) yy ⟨p.ev.trans p3.ev, p3.rh, e2, fun _ _ z => (nomatch z)⟩ q3⟩
        rw [← e1]; exact DGet.k z1
      · exact q3.elim
    · exact q3.elim
  · exact q3.elim
def putD (ks : List Key) (vs : List VV) (k : Key) (v : VV) : VO := if (ks.any fun q => decide (q = k)) = true then .dic ks (putW ks vs k v) else .dic (ks ++ [k]) (vs ++ [v])
theorem putD_ok {H : Hp} {p : Addr} {k : Key} {v : VV} {y : V} {kvs : List (Key × V)} {vs : List VV} (e : H p = some (.dK (putK kvs k y))) (ry : RelT K m H v y) (r : Rels K m H vs (kvs.map Prod.snd)) : RelO K m H p (putD (kvs.map Prod.fst) vs k v) := by
  unfold putD
  rw [List.any_map]
  by_cases c : (kvs.any fun kv => decide (kv.1 = k)) = true
  · rw [if_pos (show (kvs.any ((fun q => decide (q = k)) ∘ Prod.fst)) = true from c)]
    refine ⟨_, e, ?_, ?_⟩
    · unfold putK
      rw [if_pos c, List.map_map]
      refine List.map_congr_left fun kv _ => ?_
      show (if kv.1 = k then (kv.1, y) else kv).1 = kv.1
      split <;> rfl
    · unfold putK
      rw [if_pos c]
      exact putW_ok ry r
  · rw [if_neg (show ¬ (kvs.any ((fun q => decide (q = k)) ∘ Prod.fst)) = true from c)]
    refine ⟨_, e, ?_, ?_⟩
    · unfold putK
      rw [if_neg c, List.map_append]; rfl
    · unfold putK
      rw [if_neg c, List.map_append]
      exact r.append (Rels.nil.cons ry)
/-- d[k] = v of a kept dict -/
def gDPut (gv ga gi : GE) : GS := fun D ρ h => gv ρ h fun r h1 => put r h1 fun v h2 => ga ρ h2 fun s h3 => gi ρ h3 fun t h4 => match s, t with
  | .val (.ref n), .val y => match h4[n]?, keyOf y with
    | some (.dic ks vs), some k => vs.length < sizeLine ∧ D.nx ρ (h4.set n (putD ks vs k v))
    | _, _ => False
  | _, _ => False
theorem msdput {pv : Pos} (hu : X.A.units + 1 < cLine) (hv : MX X c gc) (ha : MX X a ga) (hb : MX X b gb) (hs : swapsWith c (some (.Subscript a b pv)) pos.line X.env = pure false := by rfl) : MS X (.Assign [.Subscript a b pv] c pos) (gDPut gc ga gb) := by
  obtain ⟨t, a1, a2⟩ := ha.ex
  obtain ⟨u, b1, b2⟩ := hb.ex
  obtain ⟨w, c1, c2⟩ := hv.ex
  refine ⟨_, ps_dput hu a1 b1 c1 hs, fun m h H ρ σ D E rh re hg k => c2 m h H ρ σ _ _ rh re hg fun m1 H1 h1 r x p1 q1 => put_ok p1 q1 fun m2 h2 v e2 r2 t2 pre q2 => ?_⟩
  refine a2 m2 h2 H1 ρ σ _ _ r2 (re.mono e2) q2 fun m3 H3 h3 s y p3 q3 => b2 m3 h3 H3 ρ σ _ _ p3.rh ((re.mono e2).mono p3.ev) q3 fun m4 H4 h4 i z p4 q4 => ?_
  split at q4
  · rename_i n yv
    split at q4
    · rename_i ks vs kk hn hk
      obtain ⟨pa, rfl, ea⟩ := RelT.ref_inv (RelR.mono p4.ev p3.rr)
      obtain ⟨kvs, z1, z2, z3⟩ := p4.rh.obj n _ pa hn ea
      subst z2
      have e3 := keyOf_ok p4.rr hk
      subst e3
      have tv := (t2.mono p3.ev).mono p4.ev
      have hl : kvs.length < sizeLine := by have := z3.len; rw [List.length_map] at this; rw [← this]; exact q4.1
      obtain ⟨e5, r5⟩ := rh_write (ov := putD (kvs.map Prod.fst) vs kk v) p4.rh hn ea (u := .dK (putK kvs kk x)) fun e => putD_ok upd_same (tv.mono e) (z3.mono e)
      have e05 := ((e2.trans p3.ev).trans p4.ev).trans e5
      exact ⟨pa, _, rfl, DPut.k z1 hl, k.nx m4 _ _ ρ σ e05 r5 (re.mono e05) q4.2⟩
    · exact q4.elim
  · exact q4.elim
/-- {} -/
def gDNew : GE := fun _ h Q => Q (.new (.dic [] [])) h
theorem mdnew : MX X (.Dict [] [] pos) gDNew := ⟨_, pe_dnewK, fun m h H ρ σ QV Q rh re hg k l hl =>
  k m _ h (.new (.dic [] [])) (.ref l) ⟨Ev.laid hl, rh.laid hl, ⟨l, rfl, rh.fresh hl, [], upd_same, rfl, .nil⟩, fun _ a _ z => by cases z; exact hl⟩ hg⟩
end
theorem hu1 {k : Nat} {A : Around} (r : Room k A) : A.units + 1 < cLine := Nat.lt_of_le_of_lt (Nat.add_le_add_left (by decide : 1 ≤ 65) _) (hu65 r)
end VL

set_option autoImplicit false
/-! VL26: tables by place, any heap's end, waves. -/
namespace VL
open PySem L2

section
variable {n : Nat} {m : Int} {rows : List (List Int)}
theorem tab_ix (T : Tab n m rows) {i : Nat} (h : i < n) : atI (rows.map fun x => VV.tup (x.map .int)) (i : Int) = some (.tup ((rows.getD i []).map .int)) := by
  rw [atI_ofInt (by omega) (by simp [T.len]; omega)]
  have h2 : i < rows.length := by rw [T.len]; exact h
  simp [List.getD_eq_getElem?_getD, List.getElem?_eq_getElem h2]
theorem row_len_ (T : Tab n m rows) {i : Nat} (h : i < n) : (rows.getD i []).length = n := T.row _ (mem_getD T h)
theorem row_ix (T : Tab n m rows) {i : Nat} {j : Int} (h : i < n) (h0 : 0 ≤ j) (hj : j < n) : atI ((rows.getD i []).map VV.int) j = some (.int (aij rows i j.toNat)) := by
  have hl := row_len_ T h
  unfold aij
  generalize rows.getD i [] = l at hl ⊢
  rw [atI_ofInt h0 (by rw [List.length_map, hl]; omega)]
  have h2 : j.toNat < l.length := by rw [hl]; omega
  rw [List.getElem?_map, List.getElem?_eq_getElem h2, List.getD_eq_getElem?_getD, List.getElem?_eq_getElem h2]; rfl
theorem ov_ix {os : List (Option Int)} {i : Nat} (h : i < os.length) : atI (os.map ov) (i : Int) = some (ov (os.getD i none)) := by
  rw [atI_ofInt (by omega) (by simp; omega), Int.toNat_natCast, List.getElem?_map, List.getElem?_eq_getElem h, List.getD_eq_getElem?_getD, List.getElem?_eq_getElem h]; rfl
theorem isNon_ov (o : Option Int) : isNon (R.val (ov o)) = decide (o = none) := by cases o <;> rfl
theorem inB_ov {h : VH} {k : Nat} {os : List (Option Int)} {j : Int} (e : h[k]? = some (.lst (os.map ov))) : inB h (.val (.int j)) (.val (.ref k)) = some (decide (some j ∈ os)) := by
  rw [inB_list e (optAll_ov os) dR_int]
  congr 1
  clear e
  induction os with
  | nil => rfl
  | cons o os ih =>
    rw [List.map_cons, List.any_cons, ih]
    cases o with
    | none => simp [ovD, PyData.eqv]
    | some x => simp [ovD, eqv_int, eq_comm]
/-- a heap that refers to itself alone -/
abbrev Hc (B : VH) : Prop := closedH B.length B
theorem th_hc {ns : List Int} {s : Ur} {r : VH} (c : Cl r) : Hc (TH ns s r) := by
  show closedH (TH ns s r).length _
  rw [th_len]; exact th_closed c (by omega)
theorem finB {B j : VH} {v : VV} {Q : R → VH → Prop} (c : Hc B) (cv : closedV B.length v = true) (q : Q (.val v) B) : fin B.length Q (.val v) (B ++ j) := by
  refine ⟨.val v, (B ++ j).take B.length, .val B.length (Nat.le_refl _) ?_ cv, ?_⟩
  · rw [List.take_left]; exact c
  · rw [List.take_left]; exact q
theorem closed_ovt {k : Nat} (os : List (Option Int)) : closedV k (.tup (os.map ov)) = true := by rw [closedV]; exact closed_ov os
theorem seqB {B : VH} {xs : List VV} : seqOf (B ++ [.lst xs]) (.val (.ref B.length)) = some xs := seq_lst snoc_get

theorem fm_none {α β : Type} : ∀ l : List α, l.filterMap (fun _ => (none : Option β)) = []
  | [] => rfl
  | a :: l => by rw [List.filterMap_cons]; exact fm_none l
theorem eqv_refl_l : ∀ {l : List PyData}, (∀ a ∈ l, PyData.eqv a a = true) → PyData.eqvAll l l = true := fun {l} h => by
  have := eqvAll_refl_map (g := id) (l := l) h
  simpa using this
theorem eqv_ovD (os : List (Option Int)) : PyData.eqv (.tuple (os.map ovD)) (.tuple (os.map ovD)) = true := by
  rw [eqv_tup]
  refine eqvAll_refl_map fun o _ => ?_
  cases o with
  | none => rw [ovD, PyData.eqv]
  | some j => rw [ovD, eqv_int]; simp
/-! ### waves -/
def wstep (n : Nat) (rows : List (List Int)) (b : Int) (os : List (Option Int)) (k : Nat) : List (Option Int) :=
  if aij rows (k % n) ((((k % n : Nat) : Int) + b + ((k / n : Nat) : Int)) % n).toNat ≠ 0 ∧ os.getD (k % n) none = none ∧ ¬ some ((((k % n : Nat) : Int) + b + ((k / n : Nat) : Int)) % n) ∈ os then os.set (k % n) (some ((((k % n : Nat) : Int) + b + ((k / n : Nat) : Int)) % n)) else os
def wv (n : Nat) (rows : List (List Int)) (b : Int) (k : Nat) : List (Option Int) := (List.range k).foldl (wstep n rows b) (List.replicate n none)
theorem wv_zero {b : Int} : wv n rows b 0 = List.replicate n none := rfl
theorem wv_succ {b : Int} {k : Nat} : wv n rows b (k + 1) = wstep n rows b (wv n rows b k) k := by
  unfold wv; rw [List.range_succ, List.foldl_append]; rfl
theorem wstep_len {b : Int} {os : List (Option Int)} {k : Nat} : (wstep n rows b os k).length = os.length := by
  unfold wstep; split <;> simp
theorem wv_len {b : Int} : ∀ k, (wv n rows b k).length = n
  | 0 => by simp [wv_zero]
  | k + 1 => by rw [wv_succ, wstep_len, wv_len k]
theorem wv_rng {b : Int} (hn : 0 < n) : ∀ k, ∀ j, some j ∈ wv n rows b k → 0 ≤ j ∧ j < n
  | 0 => fun j h => by rw [wv_zero] at h; have := List.eq_of_mem_replicate h; cases this
  | k + 1 => fun j h => by
    rw [wv_succ] at h
    unfold wstep at h
    split at h
    · rcases List.mem_or_eq_of_mem_set h with h | h
      · exact wv_rng hn k j h
      · cases h
        exact ⟨Int.emod_nonneg _ (by omega), Int.emod_lt_of_pos _ (by omega)⟩
    · exact wv_rng hn k j h
abbrev waveF (n : Nat) (rows : List (List Int)) (b : Int) : List (Option Int) := wv n rows b (n * n)
/-- one step, by what is found -/
theorem wv_at {b : Int} {d r k : Nat} (hr : r < n) (hk : k = d * n + r) : wv n rows b (k + 1) =
    if aij rows r (((r : Int) + b + d) % n).toNat ≠ 0 ∧ (wv n rows b k).getD r none = none ∧ ¬ some (((r : Int) + b + d) % n) ∈ wv n rows b k then (wv n rows b k).set r (some (((r : Int) + b + d) % n)) else wv n rows b k := by
  have e1 : k % n = r := by rw [hk, Nat.add_comm, Nat.add_mul_mod_self_right, Nat.mod_eq_of_lt hr]
  have e2 : k / n = d := by rw [hk, Nat.add_comm, Nat.add_mul_div_right _ _ (by omega), Nat.div_eq_of_lt hr, Nat.zero_add]
  rw [wv_succ]
  unfold wstep
  rw [e1, e2]
end
/-! ### loops and comprehensions, said shorter -/
theorem rng_map {z : Int} {k : Nat} (hz : z.toNat = k) : rng 0 z.toNat = (List.range k).map (fun i : Nat => VV.int i) := by
  rw [hz]; simp [rng]
section
variable {ρ : Env} {h : VH} {N : Env → VH → Prop} {rt : R → VH → Prop} {bk ct : Env → VH → Prop} {ex : XV} {t : GT} {ga : GE} {Q : R → VH → Prop}
/-- for over any list, by what holds ahead of each turn -/
theorem for_ls {st : VH → Prop} {g : GG} {gs : GS} {n0 : Nat} {xs : List VV} (I : Nat → Env → VH → Prop) (hst : ∀ i ρ h, I i ρ h → st h) (h0 : I 0 ρ h)
    (hb : ∀ i x ρ h, xs[i]? = some x → I i ρ h → g x ρ fun ρ1 => gs ⟨fun ρ2 h2 => ∃ ρ3 h3, Fgt n0 ρ2 h2 ρ3 h3 ∧ I (i + 1) ρ3 h3, rt, N, fun ρ2 h2 => ∃ ρ3 h3, Fgt n0 ρ2 h2 ρ3 h3 ∧ I (i + 1) ρ3 h3, ex⟩ ρ1 h)
    (he : ∀ ρ h, I xs.length ρ h → N ρ h) (mono : ∀ x ρ (A B : Env → Prop), (∀ ρ, A ρ → B ρ) → g x ρ A → g x ρ B := by first | exact mono_gtN | exact mono_gt2) : forL n0 st g gs ⟨N, rt, bk, ct, ex⟩ xs ρ h :=
  forL_inv I xs 0 ρ h hst (fun i x ρ h e q => by rw [Nat.zero_add] at q ⊢; exact hb i x ρ h e q) h0 (fun ρ h q => by rw [Nat.zero_add] at q; exact he ρ h q) mono
/-- for over range(z) -/
theorem for_rng {st : VH → Prop} {g : GG} {gs : GS} {n0 : Nat} {z : Int} (I : Nat → Env → VH → Prop) (k : Nat) (hst : ∀ h, st h) (h0 : I 0 ρ h)
    (hb : ∀ i ρ h, i < k → I i ρ h → g (.int (i : Int)) ρ fun ρ1 => gs ⟨fun ρ2 h2 => ∃ ρ3 h3, Fgt n0 ρ2 h2 ρ3 h3 ∧ I (i + 1) ρ3 h3, rt, N, fun ρ2 h2 => ∃ ρ3 h3, Fgt n0 ρ2 h2 ρ3 h3 ∧ I (i + 1) ρ3 h3, ex⟩ ρ1 h)
    (he : ∀ ρ h, I k ρ h → N ρ h) (hz : z.toNat = k := by first | rfl | omega) (mono : ∀ x ρ (A B : Env → Prop), (∀ ρ, A ρ → B ρ) → g x ρ A → g x ρ B := by first | exact mono_gtN | exact mono_gt2) : forL n0 st g gs ⟨N, rt, bk, ct, ex⟩ (rng 0 z.toNat) ρ h := by
  subst hz
  refine for_ls I (fun _ _ h _ => hst h) h0 (fun i x ρ h e q => ?_) (fun ρ h q => ?_) mono
  · obtain ⟨hi, rfl⟩ := rng_get0 e
    exact hb i ρ h hi q
  · rw [rng_len] at q; exact he ρ h q
/-- a comprehension that leaves the heap as it is: which are taken, and what is made of them -/
theorem lc_of {α : Type} {st : VH → Prop} {g : GG} {ρw : Env} {n0 : Nat} {xs : List VV} (e : α → VV) (ys : List α) (F : α → Option VV) (hx : xs = ys.map e) (hl : ys.length ≤ 50000) (hst : st h)
    (hb : ∀ y ∈ ys, g (e y) ρw fun ρ1 => t ρ1 h fun b h1 => if b = true then ga ρ1 h1 fun r h2 => put r h2 fun v h3 => F y = some v ∧ h3 = h else F y = none ∧ h1 = h)
    (q : Q (.new (.lst (ys.filterMap F))) h) (mono : ∀ x ρ (A B : Env → Prop), (∀ ρ, A ρ → B ρ) → g x ρ A → g x ρ B := by first | exact mono_gtN | exact mono_gt2) : lcL n0 st g t ga ρw Q xs [] h := by
  subst hx
  suffices H : ∀ (ys : List α) (acc : List VV), (∀ y ∈ ys, g (e y) ρw fun ρ1 => t ρ1 h fun b h1 => if b = true then ga ρ1 h1 fun r h2 => put r h2 fun v h3 => F y = some v ∧ h3 = h else F y = none ∧ h1 = h) →
      acc.length + ys.length ≤ 50000 → Q (.new (.lst (acc ++ ys.filterMap F))) h → lcL n0 st g t ga ρw Q (ys.map e) acc h by
    exact H ys [] hb (by simpa using hl) (by simpa using q)
  clear hb hl q
  intro ys
  induction ys with
  | nil => exact fun acc _ _ q => ⟨hst, by simpa using q⟩
  | cons y ys ih =>
    intro acc hb hl q
    rw [List.length_cons] at hl
    refine ⟨hst, mono _ ρw _ _ (fun ρ1 q1 => ?_) (hb y (by simp))⟩
    refine ⟨fun o h3 => match o with
      | some v => F y = some v ∧ h3 = h
      | none => F y = none ∧ h3 = h, q1, fun v h3 e => ?_, fun h1 e => ?_⟩
    · obtain ⟨e1, rfl⟩ := e
      refine ⟨Nat.lt_of_lt_of_le (show acc.length < 100001 by omega) (by decide), h3, .inl rfl, ih _ (fun y hy => hb y (by simp [hy])) (by simp; omega) ?_⟩
      simp only [List.filterMap_cons, e1] at q
      simpa using q
    · obtain ⟨e1, rfl⟩ := e
      refine ih _ (fun y hy => hb y (by simp [hy])) (by omega) ?_
      simp only [List.filterMap_cons, e1] at q
      exact q
theorem lc_mp {α : Type} {st : VH → Prop} {g : GG} {ρw : Env} {n0 : Nat} {xs : List VV} (e : α → VV) (ys : List α) (F : α → VV) (hx : xs = ys.map e) (hl : ys.length ≤ 50000) (hst : st h)
    (hb : ∀ y ∈ ys, g (e y) ρw fun ρ1 => t ρ1 h fun b h1 => if b = true then ga ρ1 h1 fun r h2 => put r h2 fun v h3 => F y = v ∧ h3 = h else False)
    (q : Q (.new (.lst (ys.map F))) h) (mono : ∀ x ρ (A B : Env → Prop), (∀ ρ, A ρ → B ρ) → g x ρ A → g x ρ B := by first | exact mono_gtN | exact mono_gt2) : lcL n0 st g t ga ρw Q xs [] h := by
  subst hx
  suffices H : ∀ (ys : List α) (acc : List VV), (∀ y ∈ ys, g (e y) ρw fun ρ1 => t ρ1 h fun b h1 => if b = true then ga ρ1 h1 fun r h2 => put r h2 fun v h3 => F y = v ∧ h3 = h else False) →
      acc.length + ys.length ≤ 50000 → Q (.new (.lst (acc ++ ys.map F))) h → lcL n0 st g t ga ρw Q (ys.map e) acc h by
    exact H ys [] hb (by simpa using hl) (by simpa using q)
  clear hb hl q
  intro ys
  induction ys with
  | nil => exact fun acc _ _ q => ⟨hst, by simpa using q⟩
  | cons y ys ih =>
    intro acc hb hl q
    rw [List.length_cons] at hl
    refine ⟨hst, mono _ ρw _ _ (fun ρ1 q1 => ?_) (hb y (by simp))⟩
    refine ⟨fun o h3 => match o with
      | some v => F y = v ∧ h3 = h
      | none => False, q1, fun v h3 e => ?_, fun h1 e => e.elim⟩
    obtain ⟨rfl, rfl⟩ := e
    refine ⟨Nat.lt_of_lt_of_le (show acc.length < 100001 by omega) (by decide), h3, .inl rfl, ih _ (fun y hy => hb y (by simp [hy])) (by simp; omega) ?_⟩
    simpa using q
theorem lc_rng {st : VH → Prop} {g : GG} {ρw : Env} {n0 : Nat} {z : Int} (F : Nat → Option VV) (k : Nat) (hl : k ≤ 50000) (hst : st h)
    (hb : ∀ i, i < k → g (.int (i : Int)) ρw fun ρ1 => t ρ1 h fun b h1 => if b = true then ga ρ1 h1 fun r h2 => put r h2 fun v h3 => F i = some v ∧ h3 = h else F i = none ∧ h1 = h)
    (q : Q (.new (.lst ((List.range k).filterMap F))) h) (hz : z.toNat = k := by first | rfl | omega) (mono : ∀ x ρ (A B : Env → Prop), (∀ ρ, A ρ → B ρ) → g x ρ A → g x ρ B := by first | exact mono_gtN | exact mono_gt2) : lcL n0 st g t ga ρw Q (rng 0 z.toNat) [] h :=
  lc_of (fun i : Nat => VV.int i) (List.range k) F (rng_map hz) (by simpa using hl) hst (fun i hi => hb i (List.mem_range.mp hi)) q mono
theorem lc_rngm {st : VH → Prop} {g : GG} {ρw : Env} {n0 : Nat} {z : Int} (F : Nat → VV) (k : Nat) (hl : k ≤ 50000) (hst : st h)
    (hb : ∀ i, i < k → g (.int (i : Int)) ρw fun ρ1 => t ρ1 h fun b h1 => if b = true then ga ρ1 h1 fun r h2 => put r h2 fun v h3 => F i = v ∧ h3 = h else False)
    (q : Q (.new (.lst ((List.range k).map F))) h) (hz : z.toNat = k := by first | rfl | omega) (mono : ∀ x ρ (A B : Env → Prop), (∀ ρ, A ρ → B ρ) → g x ρ A → g x ρ B := by first | exact mono_gtN | exact mono_gt2) : lcL n0 st g t ga ρw Q (rng 0 z.toNat) [] h :=
  lc_mp (fun i : Nat => VV.int i) (List.range k) F (rng_map hz) (by simpa using hl) hst (fun i hi => hb i (List.mem_range.mp hi)) q mono
theorem t_pow59 (q : Q (.val (.int (10 ^ 59))) h) : goPow (.val (.int 10)) (.val (.int 59)) h Q := ⟨by unfold CPow; decide, q⟩
end
end VL

set_option autoImplicit false
/-! VL27: truth of any value, the greatest of a tuple, how many unlike ones. -/
namespace VL
open PySem L2 PySem.Spec PyProof.Rows

section
variable {prog : Program} {w : World} {A : Around} {E : Value → Shared → Prop} {s : Shared} {its : List Value} {l : Addr} {ns : List Int}
theorem tmax {Q : Value → Shared → Prop} (hh : A.handled = none) (hl : s.heap.IsTuple l its.toArray) (hi : IntsAre its ns) (hne : 0 < ns.length)
    (k : ∀ h' tk M t', (∀ b o, s.heap.get? b = some o → h'.get? b = some o) → M ∈ ns → (∀ a, a ∈ ns → a ≤ M) → Q (.int M t') { s with heap := h', toks := tk }) : wpAny (model prog w) A (call (.builtin "max") [.ref l]) Q E s := by
  have al : l < s.heap.objs.size := by obtain ⟨o, q, _⟩ := hl; exact Heap.lt_size q
  obtain ⟨xs, e⟩ := hi.allInts.items
  have hn : numsOf (intItems xs).toList = ns := e ▸ hi.numsOf
  rw [nums_intItems] at hn
  subst hn
  rw [e] at hl
  refine call_max_walk (wpAny_pyIter_tuple hl ⟨s.heap.objs.size, _, _, (intItems xs).size, _, _, _, rfl, Walks.tuple (A := A.in1) hh s.heap.objs.size l (Nat.ne_of_lt al) (intItems xs), ⟨⟨_, Heap.get?_push_size _ rfl, rfl, rfl⟩, hl.push _⟩, fun b hb => ?_, by simpa [intItems] using hne, CmpOf.ints_gt (numAt xs) (fun _ _ => intItems_at), fun v h' tk hv hk => ?_⟩)
  · show b < (s.heap.push _).objs.size
    rw [Heap.size_push]
    rcases (show b = s.heap.objs.size ∨ b = l by simpa using hb) with e | e
    · rw [e]; exact Nat.lt_succ_self _
    · rw [e]; exact Nat.lt_succ_of_lt al
  · have hs : (intItems xs).size = xs.size := by simp [intItems]
    rw [hs] at hv
    obtain ⟨t, rfl⟩ := intItems_at hv
    obtain ⟨h1, h2⟩ := argBest_gt (numAt xs) (xs.size - 1)
    have hsz : 0 < xs.size := by simpa using hne
    refine k h' tk _ t (fun b o e => hk b o (fun hb => ?_) (Heap.get?_push_of_some _ e)) ?_ fun a ha => ?_
    · have eb : b = s.heap.objs.size := by simpa using hb
      exact absurd (Heap.lt_size e) (by rw [eb]; exact Nat.lt_irrefl _)
    · rw [numAt_eq]
      exact PySem.getD_mem (by rw [List.length_map, Array.length_toList]; exact Nat.lt_of_le_of_lt h1 (by omega))
    · obtain ⟨j, hj, rfl⟩ : ∃ j, j < (List.map (fun x => x.fst) xs.toList).length ∧ (List.map (fun x => x.fst) xs.toList).getD j 0 = a := by
        obtain ⟨j, hj, e⟩ := List.mem_iff_getElem.mp ha
        exact ⟨j, hj, by rw [List.getD_eq_getElem?_getD, List.getElem?_eq_getElem hj]; exact e⟩
      have hj' : j < xs.size := by simpa using hj
      rw [← numAt_eq]
      exact h2 j (by omega)
end
section
variable {X : Cx} {K : PySem.W.Frag} {m : List Addr} {H : Hp} {h : VH} {ρ : VL.Env} {a : Expr} {ga : GE} {pos : Pos}
theorem cr_maxTu (hc : X.calm = true) : CallR X (.builtin "max") (fun vs H Q => ∃ (a : Addr) (ns : List Int), vs = [V.ref a] ∧ SqT X.K H a (ns.map V.int) ∧ 0 < ns.length ∧ ∀ z, z ∈ ns → (∀ y, y ∈ ns → y ≤ z) → Q (.int z) H) := by
  intro pins s σ H vs us Q I r hw
  obtain ⟨p, ns, rfl, hs, hne, q⟩ := hw
  obtain ⟨its, rv, hl, _⟩ := I.tuple hs
  rw [Vals.ref1 r]
  exact tmax (I.ok.hd hc) hl rv.ints hne fun h' tk z t' hk h1 h2 => ⟨.int _, H, I.kept hk, ⟨_, rfl⟩, q z h1 h2⟩
def guMaxS : GU := fun x h Q => match sintsOf h x with
  | some ns => 0 < ns.length ∧ Q (.val (.int (mxL ns))) h
  | none => False
theorem mxL_eq {ns : List Int} {z : Int} (h1 : z ∈ ns) (h2 : ∀ y ∈ ns, y ≤ z) : z = mxL ns := by
  have a := mxL_ge h1
  have b := h2 _ (mxL_mem (List.length_pos_of_mem h1))
  omega
theorem mc_maxS (hc : X.calm = true := by rfl) : MC1 X (.builtin "max") guMaxS := by
  refine ⟨_, CallR.or (cr_max hc) (cr_maxTu hc), fun m h H x rx QV Q rh r1 q k => ?_⟩
  unfold guMaxS sintsOf at q
  split at q
  · rename_i ns hx
    obtain ⟨hne, q⟩ := q
    cases q2 : seqOf h rx with
    | none => rw [q2] at hx; cases hx
    | some xs =>
      rw [q2] at hx
      have ex := intsOf_eq hx
      obtain ⟨p, ys, rfl, hs, r⟩ := seqOf_ok rh r1 q2
      rw [ex] at r
      have := r.ints
      subst this
      rcases hs with hs | hs
      · exact .inl ⟨p, ns, rfl, hs, hne, fun z h1 h2 => by rw [mxL_eq h1 h2]; exact k _ _ _ _ _ (Pst.val rh .int) q⟩
      · exact .inr ⟨p, ns, rfl, hs, hne, fun z h1 h2 => by rw [mxL_eq h1 h2]; exact k _ _ _ _ _ (Pst.val rh .int) q⟩
  · exact q.elim
/-! ### truth -/
def kTru (QT : Bool → VH → Prop) (r : R) (h : VH) : Prop := match r with
  | .val .non => QT false h
  | .val (.bl b) => QT b h
  | .val (.int i) => QT (i != 0) h
  | .val (.str z) => z.length ≤ sizeLine ∧ QT ((z.length : Int) != 0) h
  | r => ∃ xs, seqOf h r = some xs ∧ QT (!xs.isEmpty) h
def gTru (ga : GE) : GT := fun ρ h QT => ga ρ h fun r h1 => kTru QT r h1
theorem mtt (ha : MX X a ga) (he : ∀ whole, isTrue a X.env whole = (do let v ← whole; standAt a.pos; holding [v] (truthy v)) := by intro _; rfl) : MT X a (gTru ga) := by
  obtain ⟨t, a1, a2⟩ := ha.ex
  refine ⟨_, pt_truth a1 he, fun m h H ρ σ QV Q rh re hg k => a2 m h H ρ σ _ _ rh re hg fun m1 H1 h1 r x p q => ?_⟩
  have seq : ∀ (r : R), RelR X.K m1 H1 r x → (∃ xs, seqOf h1 r = some xs ∧ QV (!xs.isEmpty) h1) → ∃ b, TruV X.K x H1 b ∧ Q b H1 := fun r rr ⟨xs, e, q⟩ => by
    obtain ⟨p2, ys, rfl, hs, r2⟩ := seqOf_ok p.rh rr e
    have eb : xs.isEmpty = ys.isEmpty := by
      have := r2.len
      cases xs with
      | nil => cases ys with
        | nil => rfl
        | cons => simp at this
      | cons => cases ys with
        | nil => simp at this
        | cons => rfl
    refine ⟨!ys.isEmpty, ?_, k m1 H1 h1 _ p.ev p.rh (eb ▸ q)⟩
    rcases hs with hs | hs
    · exact .inl ⟨ys, hs, rfl⟩
    · exact .inr (.inl ⟨ys, hs, rfl⟩)
  unfold kTru at q
  split at q
  · exact ⟨false, by rw [RelT.non_inv p.rr]; rfl, k m1 H1 h1 _ p.ev p.rh q⟩
  · exact ⟨_, by rw [RelT.bl_inv p.rr]; rfl, k m1 H1 h1 _ p.ev p.rh q⟩
  · exact ⟨_, by rw [RelT.int_inv p.rr]; rfl, k m1 H1 h1 _ p.ev p.rh q⟩
  · exact ⟨_, by rw [RelT.str_inv p.rr]; exact ⟨q.1, rfl⟩, k m1 H1 h1 _ p.ev p.rh q.2⟩
  · exact seq _ p.rr q
/-! ### len(set(xs)), xs a list of whole numbers -/
def dlen (ns : List Int) : Nat := (firstMet (fun i => ns.getD i 0) ns.length).length
theorem fms (f : Nat → Int) (n : Nat) : firstMet f (n + 1) = if ((firstMet f n).any (· == f n)) = true then firstMet f n else firstMet f n ++ [f n] := by rw [firstMet_succ]; rfl
theorem fm_le (f : Nat → Int) : ∀ n, (firstMet f n).length ≤ n
  | 0 => Nat.le_refl _
  | n + 1 => by
    rw [fms]
    split
    · exact Nat.le_succ_of_le (fm_le f n)
    · rw [List.length_append]; exact Nat.succ_le_succ (fm_le f n)
theorem fm_mem (f : Nat → Int) : ∀ n i, i < n → f i ∈ firstMet f n
  | 0, i, h => absurd h (by omega)
  | n + 1, i, h => by
    rw [fms]
    by_cases e : i = n
    · subst e
      split
      · rename_i c
        obtain ⟨y, hy, ey⟩ := List.any_eq_true.mp c
        rw [← eq_of_beq ey]; exact hy
      · simp
    · have := fm_mem f n i (by omega)
      split
      · exact this
      · exact List.mem_append.mpr (.inl this)
theorem fm_full (f : Nat → Int) : ∀ n, (firstMet f n).length = n ↔ ∀ i j, i < j → j < n → f i ≠ f j
  | 0 => ⟨fun _ i j _ h => absurd h (by omega), fun _ => rfl⟩
  | n + 1 => by
    have ih := fm_full f n
    have le := fm_le f n
    rw [fms]
    split
    · rename_i c
      obtain ⟨y, hy, ey⟩ := List.any_eq_true.mp c
      constructor
      · intro z; omega
      · intro z
        exfalso
        have ey := eq_of_beq ey
        subst ey
        have : ∀ k, k ≤ n → f n ∈ firstMet f k → ∃ i, i < k ∧ f i = f n := by
          intro k
          induction k with
          | zero => intro _ h; cases h
          | succ k ihk =>
            intro hk h
            rw [fms] at h
            split at h
            · obtain ⟨i, h1, h2⟩ := ihk (by omega) h
              exact ⟨i, by omega, h2⟩
            · rcases List.mem_append.mp h with h | h
              · obtain ⟨i, h1, h2⟩ := ihk (by omega) h
                exact ⟨i, by omega, h2⟩
              · exact ⟨k, by omega, (List.mem_singleton.mp h).symm⟩
        obtain ⟨i, h1, h2⟩ := this n (Nat.le_refl _) hy
        exact z i n h1 (by omega) h2
    · rename_i c
      rw [List.length_append]
      constructor
      · intro z i j hij hj
        by_cases e : j = n
        · subst e
          intro eq
          exact c (List.any_eq_true.mpr ⟨f i, fm_mem f _ i hij, by rw [eq]; exact beq_self_eq_true _⟩)
        · exact ih.mp (by simpa using z) i j hij (by omega)
      · intro z
        have := ih.mpr fun i j h1 h2 => z i j h1 (by omega)
        rw [this]; rfl
theorem dlen_le (ns : List Int) : dlen ns ≤ ns.length := fm_le _ _
theorem dlen_full (ns : List Int) : dlen ns = ns.length ↔ ns.Nodup := by
  unfold dlen
  rw [fm_full, List.Nodup, List.pairwise_iff_getElem]
  constructor
  · intro z i j hi hj hij
    have := z i j hij hj
    simpa [List.getD_eq_getElem?_getD, List.getElem?_eq_getElem hi, List.getElem?_eq_getElem hj] using this
  · intro z i j hij hj
    have := z i j (by omega) hj hij
    simpa [List.getD_eq_getElem?_getD, List.getElem?_eq_getElem (show i < ns.length by omega), List.getElem?_eq_getElem hj] using this
def gLenSet (ga : GE) : GE := fun ρ h Q => ga ρ h fun r h1 => ∃ ns : List Int, lintsOf h1 r = some ns ∧ ns.length ≤ 4000 ∧ Q (.val (.int (dlen ns : Nat))) h1
theorem mlenset {p p2 q : Pos} (hm : X.mg "len" = none) (hm2 : X.mg "set" = none) (ha : MX X a ga) (hg : Gl X "len" := by rfl) (hg2 : Gl X "set" := by rfl) (hc : X.calm = true := by rfl)
    (na : starEach [a] X.env = (false, eval a X.env) :: starEach [] X.env := by rfl) : MX X (.Call (.Name "len" p) [.Call (.Name "set" p2) [a] [] q] [] pos) (gLenSet ga) := by
  obtain ⟨t, a1, a2⟩ := ha.ex
  refine ⟨fun σ H Q => t σ H fun x H1 => ∃ (l : Addr) (ns : List Int), x = .ref l ∧ SqL X.K H1 l (ns.map V.int) ∧ ns.length ≤ 4000 ∧ Q (.int (dlen ns : Nat)) H1, ⟨fun pins s σ H Q I hw => ?_⟩, fun m h H ρ σ QV Q rh re hg k => a2 m h H ρ σ _ _ rh re hg fun m1 H1 h1 r x p q => ?_⟩
  · refine Call_ (ld_blt I hg hm boot_len (callWith_builtin1 (args_cons ?_ rfl) rfl rfl))
    refine Call_ (ld_blt I hg2 hm2 boot_set (callWith_type1 (args_cons (thn (a1.run pins s σ H _ I hw) fun v s1 ⟨x, H1, I1, r1, q1⟩ => args_nil ?_) na) na rfl))
    obtain ⟨l, ns, rfl, hq, hl, q1⟩ := q1
    cases r1
    obtain ⟨its, rv, pl, _⟩ := I1.list hq
    have hlen : its.toArray.size = ns.length := by simpa using rv.length.symm
    refine call_set_list (I1.ok.hd hc) pl.isList (by simpa using rv.ints) (by rw [hlen]; unfold scanBound; omega) fun h' tk hS hk => args_nil ?_
    rw [hlen] at hS
    obtain ⟨o, es, ep, tb, ho, hex, hd, _, _, _, hf, hn⟩ := hS
    have hn2 : es.size = dlen ns := hn
    have hle := dlen_le ns
    exact call_len_set ho hex hd hf (by omega) ⟨.int (dlen ns : Nat), H1, (I1.kept fun b o e => hk b o (Heap.lt_size e) e).tok _, ⟨_, by rw [hn2]⟩, q1⟩
  · obtain ⟨ns, e, hl, q⟩ := q
    obtain ⟨p2, rfl, hp⟩ := lintsOf_ok p.rh p.rr e
    exact ⟨p2, ns, rfl, .of hp, hl, k _ _ _ _ _ ((Pst.val p.rh .int).from_ p.ev p.rh) q⟩
end
section
variable {ρ : VL.Env} {h : VH} {QT : Bool → VH → Prop} {Q : R → VH → Prop} {ga : GE} {x : R}
theorem t_tru (q : ga ρ h fun r h1 => kTru QT r h1) : gTru ga ρ h QT := q
theorem t_ktruB {b : Bool} (q : QT b h) : kTru QT (.val (.bl b)) h := q
theorem t_ktruN (q : QT false h) : kTru QT (.val .non) h := q
theorem t_ktruI {i : Int} (q : QT (i != 0) h) : kTru QT (.val (.int i)) h := q
theorem t_ktruL {xs : List VV} (e : seqOf h x = some xs) (q : QT (!xs.isEmpty) h) : kTru QT x h := by
  unfold kTru
  split
  · simp [seqOf] at e
  · simp [seqOf] at e
  · simp [seqOf] at e
  · simp [seqOf] at e
  · exact ⟨xs, e, q⟩
def kLs (Q : R → VH → Prop) (r : R) (h : VH) : Prop := ∃ ns : List Int, lintsOf h r = some ns ∧ ns.length ≤ 4000 ∧ Q (.val (.int (dlen ns : Nat))) h
theorem t_lset (q : ga ρ h fun r h1 => kLs Q r h1) : gLenSet ga ρ h Q := q
theorem t_kls {n : Nat} {ns : List Int} (e : h[n]? = some (.lst (ns.map VV.int))) (l : ns.length ≤ 4000) (q : Q (.val (.int (dlen ns : Nat))) h) : kLs Q (.val (.ref n)) h :=
  ⟨ns, by unfold lintsOf; rw [lst_ref e]; exact intsOf_map ns, l, q⟩
theorem t_maxS {ns : List Int} (e : seqOf h x = some (ns.map VV.int)) (l : 0 < ns.length) (q : Q (.val (.int (mxL ns))) h) : guMaxS x h Q := by
  unfold guMaxS sintsOf; rw [e]; simp only [Option.bind_some, intsOf_map]; exact ⟨l, q⟩
end
end VL

set_option autoImplicit false
/-! VL28: two clauses, enumerated lists, pairings. -/
namespace VL
open PySem L2
section
variable {ρ : VL.Env} {h B : VH} {t t1 : GT} {ga : GE} {Q : R → VH → Prop}
theorem lcI_of {β : Type} {n1 : Nat} {st : VH → Prop} {g : GG} {ρw : VL.Env} {k : VH → Prop} (e : β → VV) (F : β → Option VV) (mono : ∀ x ρ (A B : VL.Env → Prop), (∀ ρ, A ρ → B ρ) → g x ρ A → g x ρ B) : ∀ (ys : List β) (acc : List VV), (∀ h, st h) → acc.length + ys.length ≤ 100000 →
    (∀ y ∈ ys, ∀ acc, g (e y) ρw fun ρ1 => t ρ1 (B ++ [.lst acc]) fun b h1 => if b = true then ga ρ1 h1 fun r h2 => put r h2 fun v h3 => F y = some v ∧ h3 = B ++ [.lst acc] else F y = none ∧ h1 = B ++ [.lst acc]) →
    k (B ++ [.lst (acc ++ ys.filterMap F)]) → lcI B.length n1 st g t ga ρw k (ys.map e) (B ++ [.lst acc])
  | [], acc, hst, _, _, hk => ⟨hst _, by simpa using hk⟩
  | y :: ys, acc, hst, hl, hs, hk => by
    rw [List.length_cons] at hl
    refine ⟨hst _, mono _ ρw _ _ (fun ρ1 q1 => ?_) (hs y (by simp) acc)⟩
    refine ⟨fun o h3 => match o with
      | some v => F y = some v ∧ h3 = B ++ [.lst acc]
      | none => F y = none ∧ h3 = B ++ [.lst acc], q1, fun v h3 e => ?_, fun h1 e => ?_⟩
    · obtain ⟨e1, rfl⟩ := e
      refine ⟨acc, snoc_get, Nat.lt_of_lt_of_le (show acc.length < 100001 by omega) (by decide), _, .inl rfl, ?_⟩
      rw [snoc_set]
      simp only [List.filterMap_cons, e1] at hk
      exact lcI_of _ F mono ys (acc ++ [v]) hst (by simp; omega) (fun z hz => hs z (by simp [hz])) (by simpa using hk)
    · obtain ⟨e1, rfl⟩ := e
      simp only [List.filterMap_cons, e1] at hk
      exact lcI_of _ F mono ys acc hst (by omega) (fun z hz => hs z (by simp [hz])) hk
theorem lcO_of {α : Type} {st : VH → Prop} {g g1 : GG} {gi1 : GI} {ρw : VL.Env} {vs1 : List Nat} (e : α → VV) (G : α → List VV) (mono : ∀ x ρ (A B : VL.Env → Prop), (∀ ρ, A ρ → B ρ) → g x ρ A → g x ρ B) : ∀ (xs : List α) (acc : List VV), (∀ h, st h) →
    (∀ x ∈ xs, ∀ acc, (acc.length ≤ 50000) → g (e x) ρw fun ρ1 => t ρ1 (B ++ [.lst acc]) fun b h1 => if b = true then gi1 ρ1 h1 fun ys st1 h2 => lcI B.length h2.length st1 g1 t1 ga (wipeV ρ1 vs1) (fun h3 => h3 = B ++ [.lst (acc ++ G x)]) ys h2 else h1 = B ++ [.lst (acc ++ G x)]) →
    (acc ++ xs.flatMap G).length ≤ 50000 →
    fin B.length Q (.val (.ref B.length)) (B ++ [.lst (acc ++ xs.flatMap G)]) → lcO B.length st g t gi1 g1 t1 ga ρw vs1 Q (xs.map e) (B ++ [.lst acc])
  | [], acc, hst, _, _, q => ⟨hst _, by simpa using q⟩
  | x :: xs, acc, hst, hs, hl, q => by
    have hl2 : acc.length ≤ 50000 := by rw [List.length_append] at hl; omega
    refine ⟨hst _, mono _ ρw _ _ (fun ρ1 q1 => ?_) (hs x (by simp) acc hl2)⟩
    refine ⟨fun h3 => h3 = B ++ [.lst (acc ++ G x)], q1, fun h3 e => ?_⟩
    subst e
    exact ⟨_, .inl rfl, lcO_of _ G mono xs (acc ++ G x) hst (fun z hz => hs z (by simp [hz])) (by simpa using hl) (by simpa using q)⟩
end
theorem enum_map {α : Type} (l : List α) (f : α → VV) (d : α) : enumV (l.map f) = (List.range l.length).map fun i : Nat => VV.tup [.int i, f (l.getD i d)] := by
  apply List.ext_getElem?
  intro i
  unfold enumV
  rw [List.getElem?_mapIdx, List.getElem?_map, List.getElem?_map]
  by_cases h : i < l.length
  · rw [List.getElem?_eq_getElem h, List.getElem?_range h]
    simp [List.getD_eq_getElem?_getD, List.getElem?_eq_getElem h]
  · rw [List.getElem?_eq_none (by omega), List.getElem?_eq_none (by simpa using h)]; rfl
theorem enum_rows {n : Nat} {m : Int} {rows : List (List Int)} (T : Tab n m rows) : enumV (rows.map fun x => VV.tup (x.map .int)) = (List.range n).map fun i : Nat => VV.tup [.int i, .tup ((rows.getD i []).map .int)] := by
  rw [enum_map rows _ [], T.len]
theorem enum_row {n : Nat} {m : Int} {rows : List (List Int)} (T : Tab n m rows) {i : Nat} (h : i < n) : enumV ((rows.getD i []).map VV.int) = (List.range n).map fun j : Nat => VV.tup [.int j, .int (aij rows i j)] := by
  rw [enum_map _ _ 0, row_len_ T h]; rfl
/-! ### pairings -/
def cel (os : List (Option Int)) : List (Nat × Int) := (List.range os.length).filterMap fun i => (os.getD i none).map fun j => (i, j)
def cv (p : Nat × Int) : VV := .tup [.int p.1, .int p.2]
def wis (n : Nat) (rows : List (List Int)) : List (Nat × Nat) := (List.range n).flatMap fun i => (List.range n).filterMap fun j => if aij rows i j ≠ 0 then some (i, j) else none
def nv (p : Nat × Nat) : VV := .tup [.int p.1, .int p.2]
theorem mem_cel {os : List (Option Int)} {i : Nat} {j : Int} : (i, j) ∈ cel os ↔ os[i]? = some (some j) := by
  unfold cel
  rw [List.mem_filterMap]
  constructor
  · rintro ⟨k, hk, e⟩
    have hk := List.mem_range.mp hk
    rw [List.getD_eq_getElem?_getD, List.getElem?_eq_getElem hk] at e
    obtain ⟨z, e1, e2⟩ := Option.map_eq_some_iff.mp e
    cases e2
    rw [List.getElem?_eq_getElem hk]
    exact congrArg some e1
  · intro e
    have hk := (List.getElem?_eq_some_iff.mp e).1
    exact ⟨i, List.mem_range.mpr hk, by rw [List.getD_eq_getElem?_getD, e]; rfl⟩
theorem mem_wis {n : Nat} {rows : List (List Int)} {i j : Nat} : (i, j) ∈ wis n rows ↔ i < n ∧ j < n ∧ aij rows i j ≠ 0 := by
  unfold wis
  simp only [List.mem_flatMap, List.mem_filterMap, List.mem_range]
  constructor
  · rintro ⟨a, ha, b, hb, e⟩
    split at e
    · cases e; exact ⟨ha, hb, by assumption⟩
    · cases e
  · rintro ⟨h1, h2, h3⟩
    exact ⟨i, h1, j, h2, by rw [if_pos h3]⟩
theorem cel_len (os : List (Option Int)) : (cel os).length ≤ os.length := by
  unfold cel
  have := List.length_filterMap_le (fun i => (os.getD i none).map fun j => (i, j)) (List.range os.length)
  simpa using this
structure Pair (n : Nat) (os : List (Option Int)) : Prop where
  len : os.length = n
  rng : ∀ j, some j ∈ os → 0 ≤ j ∧ j < n
  nd : ∀ (i k : Nat) (j : Int), os[i]? = some (some j) → os[k]? = some (some j) → i = k
def isI : VV → Bool
  | .int _ => true
  | _ => false
def amB (n : Int) : VV → Bool
  | .int i => decide (0 ≤ i) && decide (i < n)
  | _ => false
def notN : VV → Bool
  | .non => false
  | _ => true
def intD : VV → Int
  | .int i => i
  | _ => 0
/-- whether a value is a pairing of n lines -/
def pairB (n : Nat) : VV → Bool
  | .tup xs => decide (2 ≤ n) && decide (n ≤ 6) && decide (xs.length = n) && (xs.filter notN).all (amB n) && decide ((xs.filter notN).map intD).Nodup
  | _ => false
theorem amB_int {n : Int} {v : VV} (h : amB n v = true) : ∃ i : Int, v = .int i ∧ 0 ≤ i ∧ i < n := by
  unfold amB at h
  split at h
  · rename_i i; exact ⟨i, rfl, by simpa using h⟩
  · cases h
theorem filt_ov : ∀ os : List (Option Int), (os.map ov).filter notN = (os.filterMap id).map VV.int
  | [] => rfl
  | none :: os => by rw [List.map_cons, List.filter_cons_of_neg (by simp [ov, notN]), filt_ov os]; rfl
  | some j :: os => by rw [List.map_cons, List.filter_cons_of_pos (by simp [ov, notN]), filt_ov os]; rfl
theorem nd_filt : ∀ {os : List (Option Int)}, (os.filterMap id).Nodup ↔ ∀ (i k : Nat) (j : Int), os[i]? = some (some j) → os[k]? = some (some j) → i = k
  | [] => by simp
  | none :: os => by
    have ih := nd_filt (os := os)
    simp only [List.filterMap_cons, id]
    rw [ih]
    constructor
    · intro z i k j h1 h2
      cases i with
      | zero => simp at h1
      | succ i => cases k with
        | zero => simp at h2
        | succ k => rw [z i k j (by simpa using h1) (by simpa using h2)]
    · intro z i k j h1 h2
      have := z (i + 1) (k + 1) j (by simpa using h1) (by simpa using h2)
      omega
  | some x :: os => by
    have ih := nd_filt (os := os)
    simp only [List.filterMap_cons, id, List.nodup_cons]
    rw [ih]
    constructor
    · rintro ⟨z1, z2⟩ i k j h1 h2
      have no : ∀ k : Nat, os[k]? ≠ some (some x) := fun k e => z1 (List.mem_filterMap.mpr ⟨some x, List.mem_of_getElem? e, rfl⟩)
      cases i with
      | zero => cases k with
        | zero => rfl
        | succ k =>
          simp at h1 h2; subst h1; exact absurd h2 (no k)
      | succ i => cases k with
        | zero => simp at h1 h2; subst h2; exact absurd h1 (no i)
        | succ k => rw [z2 i k j (by simpa using h1) (by simpa using h2)]
    · intro z
      refine ⟨fun hm => ?_, fun i k j h1 h2 => ?_⟩
      · obtain ⟨o, ho, e⟩ := List.mem_filterMap.mp hm
        simp only [id] at e
        subst e
        obtain ⟨k, hk⟩ := List.mem_iff_getElem?.mp ho
        have := z 0 (k + 1) x (by simp) (by simpa using hk)
        omega
      · have := z (i + 1) (k + 1) j (by simpa using h1) (by simpa using h2)
        omega
theorem pairB_of {n : Nat} {os : List (Option Int)} (n2 : 2 ≤ n) (n6 : n ≤ 6) (p : Pair n os) : pairB n (.tup (os.map ov)) = true := by
  unfold pairB
  dsimp only
  rw [filt_ov]
  have e1 : ((os.filterMap id).map VV.int).map intD = os.filterMap id := by rw [List.map_map]; exact List.map_id _
  rw [e1]
  have e2 : ((os.filterMap id).map VV.int).all (amB n) = true := by
    rw [List.all_eq_true]
    intro v hv
    obtain ⟨j, hj, rfl⟩ := List.mem_map.mp hv
    obtain ⟨o, ho, e⟩ := List.mem_filterMap.mp hj
    simp only [id] at e
    subst e
    have := p.rng j ho
    simp [amB, this]
  have e3 := nd_filt.mpr p.nd
  rw [e2]
  simp [n2, n6, p.len, e3]
theorem of_pairB {n : Nat} {v : VV} (h : pairB n v = true) : 2 ≤ n ∧ n ≤ 6 ∧ ∃ os, v = .tup (os.map ov) ∧ Pair n os := by
  unfold pairB at h
  split at h
  · rename_i xs
    simp only [Bool.and_eq_true, decide_eq_true_eq] at h
    obtain ⟨⟨⟨⟨h1, h2⟩, h3⟩, h4⟩, h5⟩ := h
    have ho : ∃ os : List (Option Int), xs = os.map ov := by
      clear h5 h3
      induction xs with
      | nil => exact ⟨[], rfl⟩
      | cons x xs ih =>
        cases e : notN x with
        | false =>
          rw [List.filter_cons_of_neg (by simp [e])] at h4
          obtain ⟨os, rfl⟩ := ih h4
          cases x <;> simp [notN] at e
          exact ⟨none :: os, rfl⟩
        | true =>
          rw [List.filter_cons_of_pos e, List.all_cons, Bool.and_eq_true] at h4
          obtain ⟨os, rfl⟩ := ih h4.2
          obtain ⟨i, rfl, _⟩ := amB_int h4.1
          exact ⟨some i :: os, rfl⟩
    obtain ⟨os, rfl⟩ := ho
    rw [filt_ov] at h4 h5
    have e1 : ((os.filterMap id).map VV.int).map intD = os.filterMap id := by rw [List.map_map]; exact List.map_id _
    rw [e1] at h5
    refine ⟨h1, h2, os, rfl, by simpa using h3, fun j hj => ?_, nd_filt.mp h5⟩
    have := List.all_eq_true.mp h4 (.int j) (List.mem_map.mpr ⟨j, List.mem_filterMap.mpr ⟨some j, hj, rfl⟩, rfl⟩)
    simpa [amB] using this
  · cases h
/-- all of a pairing's cells are wished -/
def Within (n : Nat) (rows : List (List Int)) (os : List (Option Int)) : Prop := ∀ i j, (i, j) ∈ cel os → aij rows i j.toNat ≠ 0
def Full (n : Nat) (rows : List (List Int)) (os : List (Option Int)) : Prop := ∀ i j, i < n → j < n → aij rows i j ≠ 0 → os.getD i none ≠ none ∨ some (j : Int) ∈ os
/-- a value whose kind is known -/
def TyD (h : VH) (v : VV) : Prop := ∃ s, tyR h (.val v) = some s
def isBo : VV → Bool
  | .bl _ => true
  | _ => false
theorem ty_ref {h : VH} {n : Nat} {s : String} (e : tyR h (.val (.ref n)) = some s) : s = "list" ∨ s = "dict" := by
  unfold tyR at e
  dsimp only at e
  split at e
  · cases e; exact .inl rfl
  · cases e; exact .inr rfl
  · cases e
theorem ty_int {h : VH} {v : VV} {s : String} (e : tyR h (.val v) = some s) : subTy s "int" = (isI v || isBo v) := by
  cases v with
  | ref n => rcases ty_ref e with rfl | rfl <;> rfl
  | _ => cases e; rfl
theorem ty_bool {h : VH} {v : VV} {s : String} (e : tyR h (.val v) = some s) : subTy s "bool" = isBo v := by
  cases v with
  | ref n => rcases ty_ref e with rfl | rfl <;> rfl
  | _ => cases e; rfl
def isTup : VV → Bool
  | .tup _ => true
  | .ftp _ => true
  | _ => false
theorem ty_tup {h : VH} {v : VV} {s : String} (e : tyR h (.val v) = some s) : subTy s "tuple" = isTup v := by
  cases v with
  | ref n => rcases ty_ref e with rfl | rfl <;> rfl
  | _ => cases e; rfl
theorem tyd_int {h : VH} {i : Int} : TyD h (.int i) := ⟨_, rfl⟩
theorem tyd_non {h : VH} : TyD h .non := ⟨_, rfl⟩
theorem tyd_ov {h : VH} (o : Option Int) : TyD h (ov o) := by cases o <;> exact ⟨_, rfl⟩
/-- the same of what a tuple holds -/
def TyT (h : VH) (v : VV) : Prop := TyD h v ∧ (∀ xs, v = .tup xs → ∀ x ∈ xs, TyD h x) ∧ ∀ xs, v ≠ .ftp xs
theorem tyt_ov {h : VH} (os : List (Option Int)) : TyT h (.tup (os.map ov)) := ⟨⟨_, rfl⟩, fun xs e x hx => by
  cases e
  obtain ⟨o, _, rfl⟩ := List.mem_map.mp hx
  exact tyd_ov o, fun _ e => VV.noConfusion e⟩
section
variable {h : VH} {Q : R → VH → Prop}
theorem t_bls {f : List Bool → Bool} {bs : List Bool} (q : Q (.val (.bl (f bs))) h) : guBls f (.new (.lst (bs.map VV.bl))) h Q := by
  unfold guBls lstOf
  simp only [Option.bind_some, blsOf_map]
  exact q
theorem map_bl {α : Type} (l : List α) (p : α → Bool) : l.map (fun y => VV.bl (p y)) = (l.map p).map VV.bl := by rw [List.map_map]; rfl
end
theorem all_id {α : Type} (l : List α) (p : α → Bool) : (l.map p).all id = l.all p := by
  induction l with
  | nil => rfl
  | cons a l ih => rw [List.map_cons, List.all_cons, List.all_cons, ih]; rfl
def withinB (n : Nat) (rows : List (List Int)) (v : VV) : Bool := pairB n v && match v with
  | .tup xs => (xs.mapIdx fun (i : Nat) x => (i, x)).all fun p => match p.2 with
    | .int j => aij rows p.1 j.toNat != 0
    | _ => true
  | _ => true
theorem within_os {n : Nat} {rows : List (List Int)} {os : List (Option Int)} (n2 : 2 ≤ n) (n6 : n ≤ 6) (p : Pair n os) : withinB n rows (.tup (os.map ov)) = (cel os).all fun p => aij rows p.1 p.2.toNat != 0 := by
  unfold withinB
  rw [pairB_of n2 n6 p, Bool.true_and]
  dsimp only
  rw [Bool.eq_iff_iff, List.all_eq_true, List.all_eq_true]
  constructor
  · rintro z ⟨i, j⟩ hm
    have hm := mem_cel.mp hm
    have := z (i, .int j) (List.mem_mapIdx.mpr ⟨i, by simpa using (List.getElem?_eq_some_iff.mp hm).1, by simp [(List.getElem?_eq_some_iff.mp hm).2, ov]⟩)
    simpa using this
  · rintro z ⟨i, x⟩ hm
    obtain ⟨k, hk, e⟩ := List.mem_mapIdx.mp hm
    cases e
    rw [List.length_map] at hk
    rw [List.getElem_map]
    cases e : os[i] with
    | none => rfl
    | some j => exact z (i, j) (mem_cel.mpr (by rw [List.getElem?_eq_getElem hk, e]))
def fullB (n : Nat) (rows : List (List Int)) (v : VV) : Bool := withinB n rows v && match v with
  | .tup xs => (wis n rows).all fun p => (match xs.getD p.1 .non with | .non => false | _ => true) || xs.any fun x => match x with | .int j => j == (p.2 : Int) | _ => false
  | _ => true
theorem full_os {n : Nat} {rows : List (List Int)} {os : List (Option Int)} (hw : withinB n rows (.tup (os.map ov)) = true) : fullB n rows (.tup (os.map ov)) = (wis n rows).all fun p => (os.getD p.1 none).isSome || decide (some (p.2 : Int) ∈ os) := by
  unfold fullB
  rw [hw, Bool.true_and]
  dsimp only
  congr 1
  funext p
  have e1 : (os.map ov).getD p.1 .non = ov (os.getD p.1 none) := by
    rw [List.getD_eq_getElem?_getD, List.getElem?_map, List.getD_eq_getElem?_getD]
    cases os[p.1]? <;> rfl
  rw [e1]
  congr 1
  · cases os.getD p.1 none <;> rfl
  · rw [Bool.eq_iff_iff, List.any_eq_true, decide_eq_true_eq]
    constructor
    · rintro ⟨x, hx, e⟩
      obtain ⟨o, ho, rfl⟩ := List.mem_map.mp hx
      cases o with
      | none => cases e
      | some j => have := eq_of_beq e; rw [← this]; exact ho
    · intro hm
      exact ⟨_, List.mem_map.mpr ⟨_, hm, rfl⟩, by simp [ov]⟩
theorem filt_fm {α : Type} (p : α → Bool) : ∀ xs : List α, xs.filterMap (fun x => if p x = true then some x else none) = xs.filter p
  | [] => rfl
  | x :: xs => by cases hn : p x <;> simp [List.filterMap_cons, List.filter_cons, hn, filt_fm p xs]
theorem ints_amB {n : Int} : ∀ {cs : List VV}, cs.all (amB n) = true → cs = (cs.map intD).map VV.int
  | [], _ => rfl
  | x :: cs, h => by
    rw [List.all_cons, Bool.and_eq_true] at h
    obtain ⟨i, rfl, _⟩ := amB_int h.1
    rw [List.map_cons, List.map_cons, ← ints_amB h.2]; rfl
theorem tyd_app {h j : VH} {v : VV} (t : TyD h v) : TyD (h ++ j) v := by
  obtain ⟨s, e⟩ := t
  refine ⟨s, ?_⟩
  cases v with
  | ref k =>
    have hk : k < h.length := by
      rcases Nat.lt_or_ge k h.length with g | g
      · exact g
      · unfold tyR at e; simp [List.getElem?_eq_none g] at e
    unfold tyR at e ⊢
    simp only [List.getElem?_append_left hk]
    exact e
  | _ => exact e
theorem wis_len {n : Nat} {rows : List (List Int)} (n6 : n ≤ 6) : (wis n rows).length ≤ 50000 := by
  unfold wis
  rw [List.length_flatMap]
  have : ∀ l : List Nat, l.length ≤ 6 → (l.map fun i => ((List.range n).filterMap fun j => if aij rows i j ≠ 0 then some (i, j) else none).length).sum ≤ l.length * 6 := by
    intro l
    induction l with
    | nil => intro _; simp
    | cons a l ih =>
      intro hl
      have h1 := List.length_filterMap_le (fun j => if aij rows a j ≠ 0 then some (a, j) else none) (List.range n)
      have h2 := ih (by simp at hl; omega)
      rw [List.length_range] at h1
      rw [List.map_cons, List.sum_cons, List.length_cons]
      omega
  have := this (List.range n) (by simpa using n6)
  rw [List.length_range] at this
  omega
theorem inB_ovt {h : VH} (os : List (Option Int)) (j : Int) : inB h (.val (.int j)) (.val (.tup (os.map ov))) = some (decide (some j ∈ os)) := by
  have key : (os.map ov).all flatVV = true := List.all_eq_true.mpr fun x hx => by
    obtain ⟨o, _, rfl⟩ := List.mem_map.mp hx
    cases o <;> rfl
  have e : ((os.map ov).any fun z => eqF z (.int j)) = decide (some j ∈ os) := by
    clear key
    induction os with
    | nil => rfl
    | cons o os ih =>
      rw [List.map_cons, List.any_cons, ih]
      cases o with
      | none => simp [ov, eqF]
      | some x =>
        have : (x == j) = decide (j = x) := by rw [Bool.beq_eq_decide_eq]; simp [eq_comm]
        simp [ov, eqF, this]
  unfold inB
  dsimp only
  rw [key, show flatVV (.int j) = true from rfl, e]; rfl
end VL

set_option autoImplicit false
/-! VL29: lists of lists, tables behind pairings, what waves are. -/
namespace VL
open PySem L2
def lo (l : List Int) : VO := .lst (l.map .int)
/-- a list of lists of whole numbers that stands behind B -/
def NL (B : VH) (rows : List (List Int)) : VH := B ++ rows.map lo ++ [.lst ((List.range rows.length).map fun i : Nat => .ref (B.length + i))]
section
variable {B : VH} {rows : List (List Int)}
theorem nl_top : (NL B rows)[B.length + rows.length]? = some (.lst ((List.range rows.length).map fun i : Nat => .ref (B.length + i))) := by
  unfold NL
  rw [List.getElem?_append_right (by simp)]
  simp
theorem nl_row {i : Nat} (h : i < rows.length) : (NL B rows)[B.length + i]? = some (lo (rows.getD i [])) := by
  unfold NL
  rw [List.getElem?_append_left (by simp; omega), List.getElem?_append_right (by omega), Nat.add_sub_cancel_left, List.getElem?_map, List.getElem?_eq_getElem h, List.getD_eq_getElem?_getD, List.getElem?_eq_getElem h]
  rfl
theorem nl_old {k : Nat} (h : k < B.length) : (NL B rows)[k]? = B[k]? := by
  unfold NL
  rw [List.append_assoc, List.getElem?_append_left h]
theorem nl_set {i : Nat} {l : List Int} (h : i < rows.length) : (NL B rows).set (B.length + i) (lo l) = NL B (rows.set i l) := by
  unfold NL
  rw [List.append_assoc, List.set_append_right _ _ (by omega), Nat.add_sub_cancel_left, List.set_append_left _ _ (by simpa using h), ← List.map_set, List.length_set, List.append_assoc]
theorem nl_len : (NL B rows).length = B.length + rows.length + 1 := by simp [NL]; omega
theorem nl_refs {i : Nat} {k : Nat} (h : i < k) : atI ((List.range k).map fun i : Nat => VV.ref (B.length + i)) (i : Int) = some (.ref (B.length + i)) := by
  rw [atI_ofInt (by omega) (by simp; omega), Int.toNat_natCast, List.getElem?_map, List.getElem?_range h]; rfl
end
/-- a comprehension each turn of which makes a new list -/
theorem lc_new {α : Type} {t : GT} {ga : GE} {Q : R → VH → Prop} {st : VH → Prop} {g : GG} {ρw : VL.Env} {n0 : Nat} {B : VH} {xs : List VV} (e : α → VV) (ys : List α) (G : α → List VV) (hx : xs = ys.map e) (hl : ys.length ≤ 50000) (hst : ∀ j, st (B ++ j))
    (hb : ∀ y ∈ ys, ∀ j : VH, g (e y) ρw fun ρ1 => t ρ1 (B ++ j) fun b h1 => if b = true then ga ρ1 h1 fun r h2 => r = .new (.lst (G y)) ∧ h2 = B ++ j else False)
    (q : Q (.new (.lst ((List.range ys.length).map fun i : Nat => .ref (B.length + i)))) (B ++ ys.map fun y => .lst (G y))) (mono : ∀ x ρ (A B : VL.Env → Prop), (∀ ρ, A ρ → B ρ) → g x ρ A → g x ρ B := by first | exact mono_gtN | exact mono_gt2) (mt : ∀ ρ h (A B : Bool → VH → Prop), (∀ b h, A b h → B b h) → t ρ h A → t ρ h B) (me : ∀ ρ h (A B : R → VH → Prop), (∀ b h, A b h → B b h) → ga ρ h A → ga ρ h B) : lcL n0 st g t ga ρw Q xs [] B := by
  subst hx
  refine lc_go (fun i acc h => acc = (List.range i).map (fun i : Nat => VV.ref (B.length + i)) ∧ h = B ++ (ys.take i).map fun y => .lst (G y)) (ys.map e) 0 [] B (fun i acc h ⟨_, e2⟩ => e2 ▸ hst _) (by simpa using Nat.le_trans hl (by decide)) ⟨rfl, by simp⟩ (fun i x acc h hx ⟨e1, e2⟩ => ?_) (fun acc h ⟨e1, e2⟩ => ?_) mono
  · rw [Nat.zero_add] at e1 e2 ⊢
    rw [List.getElem?_map] at hx
    obtain ⟨y, hy, rfl⟩ := Option.map_eq_some_iff.mp hx
    subst e1 e2
    refine mono _ _ _ _ (fun ρ1 q1 => mt _ _ _ _ (fun b h1 q2 => ?_) q1) (hb y (List.mem_of_getElem? hy) _)
    cases b with
    | false => exact q2.elim
    | true =>
      refine me _ _ _ _ (fun r h2 ⟨e1, e2⟩ => ?_) q2
      subst e1 e2
      have hi := (List.getElem?_eq_some_iff.mp hy).1
      refine ⟨_, .inl rfl, ?_, ?_⟩
      · have hm : min i ys.length = i := Nat.min_eq_left (Nat.le_of_lt hi)
        rw [List.range_succ, List.map_append]
        simp [hm]
      · rw [List.take_add_one, hy]
        simp
  · rw [Nat.zero_add, List.length_map] at e1 e2
    rw [List.take_length] at e2
    subst e1 e2
    exact q
theorem mt_yes : ∀ ρ h (A B : Bool → VH → Prop), (∀ b h, A b h → B b h) → gYes ρ h A → gYes ρ h B := fun _ _ _ _ k q => k _ _ q
theorem me_list {i : Nat} : ∀ ρ h (A B : R → VH → Prop), (∀ b h, A b h → B b h) → gCall1 guList (gV i) ρ h A → gCall1 guList (gV i) ρ h B := fun ρ h A B k q => by
  unfold gCall1 gV at q ⊢
  split at q
  · rename_i v e
    unfold guList at q ⊢
    split at q
    · exact k _ _ q
    · exact q.elim
  · exact q.elim
/-! ### zip -/
theorem zip_map {α β : Type} (l : List α) (k : List β) (f : α → VV) (g : β → VV) (d : α) (e : β) (h : l.length = k.length) : zipV (l.map f) (k.map g) = (List.range l.length).map fun i : Nat => VV.tup [f (l.getD i d), g (k.getD i e)] := by
  apply List.ext_getElem?
  intro i
  unfold zipV
  rw [List.getElem?_zipWith, List.getElem?_map, List.getElem?_map, List.getElem?_map]
  by_cases hi : i < l.length
  · rw [List.getElem?_eq_getElem hi, List.getElem?_eq_getElem (show i < k.length by omega), List.getElem?_range hi]
    simp [List.getD_eq_getElem?_getD, List.getElem?_eq_getElem hi, List.getElem?_eq_getElem (show i < k.length by omega)]
  · rw [List.getElem?_eq_none (show l.length ≤ i by omega), List.getElem?_eq_none (show k.length ≤ i by omega), List.getElem?_eq_none (show (List.range l.length).length ≤ i by simpa using hi)]; rfl
theorem eqv_io (j : Int) (o : Option Int) : PyData.eqv (.int j) (ovD o) = decide (o = some j) := by
  cases o with
  | none => simp [ovD, PyData.eqv]
  | some x => rw [ovD, eqv_int]; simp [eq_comm]
/-! ### a table behind a pairing -/
def lessP (n : Nat) (rows : List (List Int)) (os : List (Option Int)) : List (List Int) :=
  (List.range n).map fun i => (List.range n).map fun (j : Nat) => if os.getD i none = some (j : Int) then aij rows i j - 1 else aij rows i j
theorem aij_map {n i j : Nat} {f : Nat → Nat → Int} (hi : i < n) (hj : j < n) : aij ((List.range n).map fun i => (List.range n).map fun j => f i j) i j = f i j := by
  unfold aij
  rw [range_get _ _ hi, range_get _ _ hj]
theorem aij_less {n i j : Nat} {rows : List (List Int)} {os : List (Option Int)} (hi : i < n) (hj : j < n) : aij (lessP n rows os) i j = if os.getD i none = some (j : Int) then aij rows i j - 1 else aij rows i j := aij_map hi hj
def WithinP (n : Nat) (rows : List (List Int)) (os : List (Option Int)) : Prop := ∀ i j : Nat, i < n → j < n → os.getD i none = some (j : Int) → aij rows i j ≠ 0
def FullP (n : Nat) (rows : List (List Int)) (os : List (Option Int)) : Prop := ∀ i j : Nat, i < n → j < n → aij rows i j ≠ 0 → (os.getD i none).isSome = true ∨ some (j : Int) ∈ os
theorem tab_less {n : Nat} {m : Int} {rows : List (List Int)} {os : List (Option Int)} (T : Tab n m rows) (w : WithinP n rows os) : Tab n m (lessP n rows os) := by
  refine ⟨T.lo, T.hi, by simp [lessP], fun x hx => ?_, fun x hx c hc => ?_⟩
  · obtain ⟨i, _, rfl⟩ := List.mem_map.mp hx; simp
  · obtain ⟨i, hi, rfl⟩ := List.mem_map.mp hx
    obtain ⟨j, hj, rfl⟩ := List.mem_map.mp hc
    have hi := List.mem_range.mp hi
    have hj := List.mem_range.mp hj
    have b := mem_getD2 T hi hj
    split
    · rename_i e; have := w i j hi hj e; omega
    · exact b
theorem getD_some {os : List (Option Int)} {i : Nat} {j : Int} : os.getD i none = some j ↔ os[i]? = some (some j) := by
  rw [List.getD_eq_getElem?_getD]
  cases e : os[i]? with
  | none => simp
  | some o => simp
theorem withinB_iff {n : Nat} {rows : List (List Int)} {os : List (Option Int)} (n2 : 2 ≤ n) (n6 : n ≤ 6) (p : Pair n os) : withinB n rows (.tup (os.map ov)) = true ↔ WithinP n rows os := by
  rw [within_os n2 n6 p, List.all_eq_true]
  constructor
  · intro z i j hi hj e
    have := z (i, (j : Int)) (mem_cel.mpr (getD_some.mp e))
    simpa using this
  · rintro z ⟨i, j⟩ hm
    have hm := mem_cel.mp hm
    have hj := p.rng j (List.mem_of_getElem? hm)
    have hi : i < n := by rw [← p.len]; exact (List.getElem?_eq_some_iff.mp hm).1
    have := z i j.toNat hi (by omega) (by rw [getD_some, hm]; congr 2; omega)
    simpa using this
theorem fullB_iff {n : Nat} {rows : List (List Int)} {os : List (Option Int)} (n2 : 2 ≤ n) (n6 : n ≤ 6) (p : Pair n os) : fullB n rows (.tup (os.map ov)) = true ↔ WithinP n rows os ∧ FullP n rows os := by
  constructor
  · intro h
    have hw : withinB n rows (.tup (os.map ov)) = true := by unfold fullB at h; rw [Bool.and_eq_true] at h; exact h.1
    rw [full_os hw, List.all_eq_true] at h
    refine ⟨(withinB_iff n2 n6 p).mp hw, fun i j hi hj e => ?_⟩
    have := h (i, j) (mem_wis.mpr ⟨hi, hj, e⟩)
    simpa using this
  · rintro ⟨h1, h2⟩
    have hw := (withinB_iff n2 n6 p).mpr h1
    rw [full_os hw, List.all_eq_true]
    rintro ⟨i, j⟩ hm
    obtain ⟨hi, hj, e⟩ := mem_wis.mp hm
    have := h2 i j hi hj e
    simpa using this
/-! ### waves are full pairings -/
structure WvOk (n : Nat) (rows : List (List Int)) (b : Int) (k : Nat) : Prop where
  pair : Pair n (wv n rows b k)
  wi : WithinP n rows (wv n rows b k)
theorem getD_set {os : List (Option Int)} {i r : Nat} {x : Option Int} (h : r < os.length) : (os.set r x).getD i none = if i = r then x else os.getD i none := by
  rw [List.getD_eq_getElem?_getD, List.getElem?_set, List.getD_eq_getElem?_getD]
  by_cases e : r = i
  · subst e; simp [h]
  · simp [e, Ne.symm e]
theorem wv_ok {n : Nat} {rows : List (List Int)} {b : Int} (hn : 0 < n) : ∀ k, WvOk n rows b k
  | 0 => by
    refine ⟨⟨wv_len _, wv_rng hn _, fun i k j h1 h2 => ?_⟩, fun i j hi hj e => ?_⟩
    · rw [wv_zero] at h1; have := List.eq_of_mem_replicate (List.mem_of_getElem? h1); cases this
    · rw [wv_zero, getD_some] at e; have := List.eq_of_mem_replicate (List.mem_of_getElem? e); cases this
  | k + 1 => by
    have ih := wv_ok (rows := rows) (b := b) hn k
    have hl := wv_len (n := n) (rows := rows) (b := b) k
    have hr : k % n < n := Nat.mod_lt _ hn
    refine ⟨⟨wv_len _, wv_rng hn _, fun i i' j h1 h2 => ?_⟩, fun i j hi hj e => ?_⟩
    · rw [← getD_some] at h1 h2
      rw [wv_succ] at h1 h2
      unfold wstep at h1 h2
      split at h1
      · rename_i c
        rw [if_pos c] at h2
        rw [getD_set (by omega)] at h1 h2
        have no : ∀ a, (wv n rows b k).getD a none = some j → ¬ j = (((k % n : Nat) : Int) + b + ((k / n : Nat) : Int)) % n := fun a ha z => c.2.2 (z ▸ List.mem_of_getElem? (getD_some.mp ha))
        split at h1
        · rename_i e1
          split at h2
          · rename_i e2; rw [e1, e2]
          · exact absurd (Option.some.inj h1).symm (no _ h2)
        · split at h2
          · exact absurd (Option.some.inj h2).symm (no _ h1)
          · exact ih.pair.nd i i' j (getD_some.mp h1) (getD_some.mp h2)
      · rename_i c
        rw [if_neg c] at h2
        exact ih.pair.nd i i' j (getD_some.mp h1) (getD_some.mp h2)
    · rw [wv_succ] at e
      unfold wstep at e
      split at e
      · rename_i c
        rw [getD_set (by omega)] at e
        split at e
        · rename_i e1
          have := Option.some.inj e
          rw [e1, show j = ((((k % n : Nat) : Int) + b + ((k / n : Nat) : Int)) % n).toNat by omega]
          exact c.1
        · exact ih.wi i j hi hj e
      · exact ih.wi i j hi hj e
/-- what was taken stays -/
theorem wv_keep {n : Nat} {rows : List (List Int)} {b : Int} {k i : Nat} {j : Int} (h : (wv n rows b k).getD i none = some j) : ∀ d, (wv n rows b (k + d)).getD i none = some j
  | 0 => h
  | d + 1 => by
    have ih := wv_keep h d
    rw [← Nat.add_assoc, wv_succ]
    unfold wstep
    split
    · rename_i c
      have hi : (k + d) % n ≠ i := fun e => by rw [e, ih] at c; exact nomatch c.2.1
      rw [List.getD_eq_getElem?_getD, List.getElem?_set_ne hi, ← List.getD_eq_getElem?_getD]
      exact ih
    · exact ih
theorem wv_full {n : Nat} {rows : List (List Int)} {b : Int} (hn : 0 < n) : FullP n rows (waveF n rows b) := by
  intro i j hi hj e
  -- the turn at which (i, j) is looked at
  have h0 := Int.emod_nonneg ((j : Int) - i - b) (b := (n : Int)) (by omega)
  have h1 := Int.emod_lt_of_pos ((j : Int) - i - b) (b := (n : Int)) (by omega)
  obtain ⟨d, hd⟩ : ∃ d : Nat, ((j : Int) - i - b) % n = d := ⟨_, (Int.toNat_of_nonneg h0).symm⟩
  rw [hd] at h1
  have hdn : d < n := by omega
  have ej : ((i : Int) + b + d) % n = j := by
    rw [← hd, Int.add_emod, Int.emod_emod_of_dvd _ (Int.dvd_refl _), ← Int.add_emod, show (i : Int) + b + (j - i - b) = j by omega]
    exact Int.emod_eq_of_lt (by omega) (by omega)
  have hk : d * n + i < n * n := by
    have : d * n + n ≤ n * n := by rw [← Nat.succ_mul]; exact Nat.mul_le_mul_right n hdn
    omega
  have st := wv_at (n := n) (rows := rows) (b := b) (d := d) (r := i) (k := d * n + i) hi rfl
  rw [ej] at st
  have hl := wv_len (n := n) (rows := rows) (b := b) (d * n + i)
  obtain ⟨z, hz⟩ : ∃ z, n * n = d * n + i + 1 + z := ⟨n * n - (d * n + i + 1), by omega⟩
  have hz' : n * n = d * n + i + (1 + z) := by omega
  by_cases c1 : (wv n rows b (d * n + i)).getD i none = none
  · by_cases c2 : some (j : Int) ∈ wv n rows b (d * n + i)
    · right
      obtain ⟨a, ha⟩ := List.mem_iff_getElem?.mp c2
      have := wv_keep (getD_some.mpr ha) (1 + z)
      rw [← hz'] at this
      exact List.mem_of_getElem? (getD_some.mp this)
    · left
      rw [if_pos ⟨by simpa using e, c1, c2⟩] at st
      have : (wv n rows b (d * n + i + 1)).getD i none = some (j : Int) := by rw [st, getD_set (by omega), if_pos rfl]
      have := wv_keep this z
      rw [← hz] at this
      unfold waveF
      rw [this]; rfl
  · left
    obtain ⟨x, hx⟩ := Option.ne_none_iff_exists'.mp c1
    have := wv_keep hx (1 + z)
    rw [← hz'] at this
    unfold waveF
    rw [this]; rfl
theorem wave_some {n : Nat} {rows : List (List Int)} {b : Int} (hn : 0 < n) (h : wis n rows ≠ []) : cel (waveF n rows b) ≠ [] := by
  obtain ⟨⟨i, j⟩, hm⟩ := List.exists_mem_of_ne_nil _ h
  obtain ⟨hi, hj, e⟩ := mem_wis.mp hm
  intro z
  rcases wv_full (b := b) hn i j hi hj e with c | c
  · obtain ⟨x, hx⟩ := Option.isSome_iff_exists.mp c
    have := mem_cel.mpr (getD_some.mp hx)
    rw [z] at this; cases this
  · obtain ⟨a, ha⟩ := List.mem_iff_getElem?.mp c
    have := mem_cel.mpr ha
    rw [z] at this; cases this
end VL

set_option autoImplicit false
/-! VL30: runs and clearings. -/
namespace VL
open PySem L2
def ptv (os : List (Option Int)) : VV := .tup (os.map ov)
def tot (n : Nat) (rows : List (List Int)) : Nat := ((List.range n).map fun i => ((List.range n).map fun j => (aij rows i j).toNat).sum).sum
theorem sum_le_nat {f g : Nat → Nat} : ∀ {l : List Nat}, (∀ i ∈ l, f i ≤ g i) → (l.map f).sum ≤ (l.map g).sum
  | [], _ => Nat.le_refl _
  | a :: l, h => by
    have h1 := h a (by simp)
    have h2 := sum_le_nat (l := l) fun i hi => h i (by simp [hi])
    simp only [List.map_cons, List.sum_cons]; omega
theorem sum_lt_nat {f g : Nat → Nat} : ∀ {l : List Nat}, (∀ i ∈ l, f i ≤ g i) → (∃ i ∈ l, f i < g i) → (l.map f).sum < (l.map g).sum
  | [], _, ⟨i, hi, _⟩ => by cases hi
  | a :: l, h, ⟨i, hi, hl⟩ => by
    have h1 := h a (by simp)
    have h2 := sum_le_nat (l := l) fun i hi => h i (by simp [hi])
    simp only [List.map_cons, List.sum_cons]
    rcases List.mem_cons.mp hi with e | hi
    · subst e; omega
    · have := sum_lt_nat (l := l) (fun i hi => h i (by simp [hi])) ⟨i, hi, hl⟩
      omega
theorem tot_le {n : Nat} {m : Int} {rows : List (List Int)} (T : Tab n m rows) : tot n rows ≤ 36 * m.toNat := by
  have h1 : ∀ i, i < n → ((List.range n).map fun j => (aij rows i j).toNat).sum ≤ 6 * m.toNat := fun i hi => by
    have := sum_le_nat (l := List.range n) (f := fun j => (aij rows i j).toNat) (g := fun _ => m.toNat) fun j hj => by
      have := mem_getD2 T hi (List.mem_range.mp hj)
      show (aij rows i j).toNat ≤ m.toNat
      omega
    rw [List.map_const', List.sum_replicate_nat, List.length_range] at this
    exact Nat.le_trans this (Nat.mul_le_mul_right _ T.hi)
  have := sum_le_nat (l := List.range n) (f := fun i => ((List.range n).map fun j => (aij rows i j).toNat).sum) (g := fun _ => 6 * m.toNat) fun i hi => h1 i (List.mem_range.mp hi)
  rw [List.map_const', List.sum_replicate_nat, List.length_range] at this
  have h6 := Nat.mul_le_mul_right (6 * m.toNat) T.hi
  unfold tot
  omega
theorem tot_less {n : Nat} {m : Int} {rows : List (List Int)} {os : List (Option Int)} (T : Tab n m rows) (p : Pair n os) (w : WithinP n rows os) (c : cel os ≠ []) : tot n (lessP n rows os) < tot n rows := by
  have e : ∀ i j, i < n → j < n → (aij (lessP n rows os) i j).toNat ≤ (aij rows i j).toNat := fun i j hi hj => by
    rw [aij_less hi hj]; split <;> omega
  obtain ⟨⟨i, j⟩, hm⟩ := List.exists_mem_of_ne_nil _ c
  have hm := mem_cel.mp hm
  have hj := p.rng j (List.mem_of_getElem? hm)
  have hi : i < n := by rw [← p.len]; exact (List.getElem?_eq_some_iff.mp hm).1
  have hg : os.getD i none = some ((j.toNat : Nat) : Int) := by rw [getD_some, hm]; congr 2; omega
  have hw := w i j.toNat hi (by omega) hg
  have hb := mem_getD2 T hi (j := j.toNat) (by omega)
  refine sum_lt_nat (fun a ha => sum_le_nat fun b hb => e a b (List.mem_range.mp ha) (List.mem_range.mp hb)) ⟨i, List.mem_range.mpr hi, sum_lt_nat (fun b hb => e i b hi (List.mem_range.mp hb)) ⟨j.toNat, List.mem_range.mpr (by omega), ?_⟩⟩
  rw [aij_less hi (by omega), if_pos hg]
  omega
/-- a run of a table, and what is left -/
inductive Run (n : Nat) : List (List Int) → List (List (Option Int)) → List (List Int) → Prop where
  | nil {rows : List (List Int)} : Run n rows [] rows
  | cons {rows rest : List (List Int)} {os : List (Option Int)} {ps : List (List (Option Int))} : Pair n os → WithinP n rows os → FullP n rows os → cel os ≠ [] → Run n (lessP n rows os) ps rest → Run n rows (os :: ps) rest
/-- the clearing by waves -/
inductive Clr (n : Nat) : List (List Int) → Int → List (List (Option Int)) → Prop where
  | done {rows : List (List Int)} {b : Int} : wis n rows = [] → Clr n rows b []
  | step {rows : List (List Int)} {b : Int} {ps : List (List (Option Int))} : wis n rows ≠ [] → Clr n (lessP n rows (waveF n rows b)) (b + 1) ps → Clr n rows b (waveF n rows b :: ps)
theorem Clr.run {n : Nat} {m : Int} {rows : List (List Int)} {b : Int} {ps : List (List (Option Int))} (c : Clr n rows b ps) (T : Tab n m rows) : ∃ rest, Run n rows ps rest ∧ Tab n m rest ∧ wis n rest = [] := by
  induction c with
  | done e => exact ⟨_, .nil, T, e⟩
  | @step rows b ps e _ ih =>
    have hn : 0 < n := by have := T.lo; omega
    have w := wv_ok (rows := rows) (b := b) hn (n * n)
    obtain ⟨rest, r, t, z⟩ := ih (tab_less T w.wi)
    exact ⟨rest, .cons w.pair w.wi (wv_full hn) (wave_some hn e) r, t, z⟩
theorem Clr.len {n : Nat} {m : Int} {rows : List (List Int)} {b : Int} {ps : List (List (Option Int))} (c : Clr n rows b ps) (T : Tab n m rows) : ps.length ≤ tot n rows := by
  induction c with
  | done e => exact Nat.zero_le _
  | @step rows b ps e _ ih =>
    have hn : 0 < n := by have := T.lo; omega
    have w := wv_ok (rows := rows) (b := b) hn (n * n)
    have h1 := ih (tab_less T w.wi)
    have h2 : tot n (lessP n rows (waveF n rows b)) < tot n rows := tot_less T w.pair w.wi (wave_some hn e)
    rw [List.length_cons]; omega
theorem Run.len {n : Nat} {m : Int} {rows rest : List (List Int)} {ps : List (List (Option Int))} (c : Run n rows ps rest) (T : Tab n m rows) : ps.length + tot n rest ≤ tot n rows ∧ Tab n m rest := by
  induction c with
  | nil => exact ⟨by simp, T⟩
  | cons p w f e _ ih =>
    have := ih (tab_less T w)
    have h2 := tot_less T p w e
    rw [List.length_cons]
    exact ⟨by omega, this.2⟩
theorem zero_tab {n : Nat} {m : Int} {rows : List (List Int)} (T : Tab n m rows) (z : wis n rows = []) : rows = List.replicate n (List.replicate n 0) := by
  have e : ∀ i j, i < n → j < n → aij rows i j = 0 := fun i j hi hj => by
    by_cases c : aij rows i j = 0
    · exact c
    · have := mem_wis.mpr ⟨hi, hj, c⟩
      rw [z] at this; cases this
  apply List.ext_getElem (by rw [T.len, List.length_replicate])
  intro i h1 h2
  rw [List.getElem_replicate]
  have hi : i < n := by rw [← T.len]; exact h1
  have hr := T.row _ (List.getElem_mem h1)
  apply List.ext_getElem (by rw [hr, List.length_replicate])
  intro j h3 h4
  rw [List.getElem_replicate]
  have := e i j hi (by omega)
  unfold aij at this
  rw [List.getD_eq_getElem?_getD, List.getD_eq_getElem?_getD, List.getElem?_eq_getElem h1] at this
  simpa [List.getElem?_eq_getElem h3] using this
theorem tv_inj {a b : List (List Int)} (h : a = b) : tv a = tv b := by rw [h]
theorem tyt_ptv {h : VH} (os : List (Option Int)) : TyT h (ptv os) := tyt_ov os
theorem closed_ptvs {k : Nat} (ps : List (List (Option Int))) : closedVs k (ps.map ptv) = true := closedVs_all fun x hx => by
  obtain ⟨os, _, rfl⟩ := List.mem_map.mp hx
  exact closed_ovt os
theorem getD_getElem? {α : Type} {l : List α} {i : Nat} {a d : α} (h : l[i]? = some a) : l.getD i d = a := by
  rw [List.getD_eq_getElem?_getD, h]; rfl
end VL

set_option autoImplicit false
/-! VL31: dicts by keys of either kind. -/
namespace VL
open PySem L2
section
variable {κ : Type} [DecidableEq κ]
def vG : List κ → List VV → κ → Option VV
  | q :: ks, v :: vs, k => if q = k then some v else vG ks vs k
  | _, _, _ => none
def pG : List κ → List VV → κ → VV → List VV
  | q :: ks, w :: vs, k, v => (if q = k then v else w) :: pG ks vs k v
  | _, _, _, _ => []
/-- keys and values behind d[k] = v -/
def pKs (ks : List κ) (k : κ) : List κ := if k ∈ ks then ks else ks ++ [k]
def pVs (ks : List κ) (vs : List VV) (k : κ) (v : VV) : List VV := if k ∈ ks then pG ks vs k v else vs ++ [v]
variable {K : PySem.W.Frag} {m : List Addr} {H : Hp}
theorem vG_ok {k : κ} : ∀ {kvs : List (κ × V)} {vs : List VV}, Rels K m H vs (kvs.map Prod.snd) → (∀ v, vG (kvs.map Prod.fst) vs k = some v → ∃ y, valV kvs k = some y ∧ RelT K m H v y) ∧ (vG (kvs.map Prod.fst) vs k = none → valV kvs k = none)
  | [], [], _ => ⟨fun v e => by simp [vG] at e, fun _ => rfl⟩
  | [], _ :: _, r => by have := r.len; simp at this
  | _ :: _, [], r => by have := r.len; simp at this
  | p :: kvs, w :: vs, r => by
    obtain ⟨r1, r2⟩ := rels_cons r
    rw [List.map_cons, vG]
    by_cases c : p.1 = k
    · rw [if_pos c]
      exact ⟨fun v e => by cases e; exact ⟨p.2, valV_pos c, r1⟩, fun e => by cases e⟩
    · rw [if_neg c, valV_neg c]
      exact vG_ok r2
theorem pG_ok {k : κ} {v : VV} {y : V} (ry : RelT K m H v y) : ∀ {kvs : List (κ × V)} {vs : List VV}, Rels K m H vs (kvs.map Prod.snd) → Rels K m H (pG (kvs.map Prod.fst) vs k v) ((kvs.map fun kv => if kv.1 = k then (kv.1, y) else kv).map Prod.snd)
  | [], [], _ => .nil
  | [], _ :: _, r => by have := r.len; simp at this
  | _ :: _, [], r => by have := r.len; simp at this
  | p :: kvs, w :: vs, r => by
    obtain ⟨r1, r2⟩ := rels_cons r
    have ih := pG_ok (k := k) ry r2
    rw [List.map_cons, List.map_cons, List.map_cons, pG]
    by_cases c : p.1 = k
    · rw [if_pos c, if_pos c]; exact ih.cons ry
    · rw [if_neg c, if_neg c]; exact ih.cons r1
theorem put_fst {k : κ} {y : V} {kvs : List (κ × V)} : (putK kvs k y).map Prod.fst = pKs (kvs.map Prod.fst) k := by
  have e : (kvs.any fun kv => decide (kv.1 = k)) = true ↔ k ∈ kvs.map Prod.fst := by
    rw [List.any_eq_true, List.mem_map]
    constructor
    · rintro ⟨p, hp, c⟩; exact ⟨p, hp, by simpa using c⟩
    · rintro ⟨p, hp, c⟩; exact ⟨p, hp, by simpa using c⟩
  unfold putK pKs
  by_cases c : k ∈ kvs.map Prod.fst
  · rw [if_pos c, if_pos (e.mpr c), List.map_map]
    refine List.map_congr_left fun p _ => ?_
    show (if p.1 = k then (p.1, y) else p).1 = p.1
    split <;> rfl
  · rw [if_neg c, if_neg (fun z => c (e.mp z)), List.map_append]; rfl
theorem put_snd {k : κ} {v : VV} {y : V} {kvs : List (κ × V)} {vs : List VV} (ry : RelT K m H v y) (r : Rels K m H vs (kvs.map Prod.snd)) : Rels K m H (pVs (kvs.map Prod.fst) vs k v) ((putK kvs k y).map Prod.snd) := by
  have e : (kvs.any fun kv => decide (kv.1 = k)) = true ↔ k ∈ kvs.map Prod.fst := by
    rw [List.any_eq_true, List.mem_map]
    constructor
    · rintro ⟨p, hp, c⟩; exact ⟨p, hp, by simpa using c⟩
    · rintro ⟨p, hp, c⟩; exact ⟨p, hp, by simpa using c⟩
  unfold putK pVs
  by_cases c : k ∈ kvs.map Prod.fst
  · rw [if_pos c, if_pos (e.mpr c)]; exact pG_ok ry r
  · rw [if_neg c, if_neg (fun z => c (e.mp z)), List.map_append]; exact r.append (.cons ry .nil)
end
/-- a tuple's key -/
def keyT : VV → Option (List Key)
  | .tup xs => optAll keyOf xs
  | _ => none
theorem keys_ok {K : PySem.W.Frag} {m : List Addr} {H : Hp} : ∀ {xs : List VV} {ys : List V} {ks : List Key}, Rels K m H xs ys → optAll keyOf xs = some ks → ys = ks.map kV
  | [], [], _, _, e => by cases e; rfl
  | [], _ :: _, _, r, _ => by have := r.len; simp at this
  | _ :: _, [], _, r, _ => by have := r.len; simp at this
  | x :: xs, y :: ys, ks, r, e => by
    obtain ⟨r1, r2⟩ := rels_cons r
    unfold optAll at e
    cases e1 : keyOf x with
    | none => rw [e1] at e; cases e
    | some k =>
      rw [e1] at e
      cases e2 : optAll keyOf xs with
      | none => rw [e2] at e; cases e
      | some js =>
        rw [e2] at e
        cases e
        rw [List.map_cons, ← keyOf_ok r1 e1, ← keys_ok r2 e2]
theorem keyT_ok {K : PySem.W.Frag} {m : List Addr} {H : Hp} {v : VV} {y : V} {k : List Key} (r : RelT K m H v y) (e : keyT v = some k) : ∃ b, y = .ref b ∧ H b = some (.tup (k.map kV)) := by
  unfold keyT at e
  split at e
  · obtain ⟨a, ys, h1, h2, h3⟩ := RelT.tup_raw r
    exact ⟨a, h1, by rw [h2, keys_ok h3 e]⟩
  · cases e
/-- what d[key] finds: none where d, or the key, is of no such kind -/
def dGetO : VO → VV → Option (Option VV)
  | .dic ks vs, v => (keyOf v).map fun k => vG ks vs k
  | .dtu ks vs, v => (keyT v).map fun k => vG ks vs k
  | .fdt _ kvs vs, v => (keyT v).map fun k => vG (kvs.map Prod.fst) vs k
  | _, _ => none
def dPutO : VO → VV → VV → Option VO
  | .dic ks vs, v, w => (keyOf v).map fun k => .dic (pKs ks k) (pVs ks vs k w)
  | .dtu ks vs, v, w => (keyT v).map fun k => .dtu (pKs ks k) (pVs ks vs k w)
  | _, _, _ => none
def sizeO : VO → Nat
  | .dic ks _ => ks.length
  | .dtu ks _ => ks.length
  | _ => 0
section
variable {K : PySem.W.Frag} {m : List Addr} {H : Hp}
theorem dGet_ok {a : Addr} {o : VO} {v : VV} {y : V} {r : Option VV} (ro : RelO K m H a o) (rv : RelT K m H v y) (e : dGetO o v = some r) : ∃ r', DGet H a y r' ∧ (∀ w, r = some w → ∃ z, r' = some z ∧ RelT K m H w z) ∧ (r = none → r' = none) := by
  unfold dGetO at e
  split at e
  · obtain ⟨k, hk, rfl⟩ := Option.map_eq_some_iff.mp e
    obtain ⟨kvs, z1, rfl, z3⟩ := ro
    obtain ⟨p, q⟩ := vG_ok (k := k) z3
    have ey := keyOf_ok rv hk
    subst ey
    exact ⟨valV kvs k, .k z1, fun w e => let ⟨z, h1, h2⟩ := p w e; ⟨z, h1, h2⟩, q⟩
  · obtain ⟨k, hk, rfl⟩ := Option.map_eq_some_iff.mp e
    obtain ⟨kvs, z1, rfl, z3⟩ := ro
    obtain ⟨p, q⟩ := vG_ok (k := k) z3
    obtain ⟨b, rfl, hb⟩ := keyT_ok rv hk
    exact ⟨valV kvs k, .t z1 hb, fun w e => let ⟨z, h1, h2⟩ := p w e; ⟨z, h1, h2⟩, q⟩
  · obtain ⟨k, hk, rfl⟩ := Option.map_eq_some_iff.mp e
    obtain ⟨z1, z3⟩ := ro
    obtain ⟨p, q⟩ := vG_ok (k := k) z3
    obtain ⟨b, rfl, hb⟩ := keyT_ok rv hk
    exact ⟨_, .inr ⟨_, k, b, .inr ⟨_, z1⟩, rfl, hb, rfl⟩, fun w e => let ⟨z, h1, h2⟩ := p w e; ⟨z, h1, h2⟩, q⟩
  · cases e
theorem dPut_ok {n : Nat} {h : VH} {a : Addr} {o o' : VO} {v w : VV} {y z : V} (rh : RH K m h H) (hn : h[n]? = some o) (ha : m[n]? = some a) (rv : RelT K m H v y) (rw' : RelT K m H w z) (e : dPutO o v w = some o') (hl : sizeO o < sizeLine) :
    ∃ u, DPut H a y z (upd H a u) ∧ Ev K m m H (upd H a u) ∧ RH K m (h.set n o') (upd H a u) := by
  have ro := rh.obj n o a hn ha
  unfold dPutO at e
  split at e
  · obtain ⟨k, hk, rfl⟩ := Option.map_eq_some_iff.mp e
    obtain ⟨kvs, z1, rfl, z3⟩ := ro
    have ey := keyOf_ok rv hk
    subst ey
    obtain ⟨e1, e2⟩ := rh_write (ov := .dic (pKs (kvs.map Prod.fst) k) (pVs (kvs.map Prod.fst) _ k w)) rh hn ha (u := .dK (putK kvs k z)) fun ev => ⟨_, upd_same, put_fst, put_snd (rw'.mono ev) (z3.mono ev)⟩
    exact ⟨_, .k z1 (by simpa [sizeO] using hl), e1, e2⟩
  · obtain ⟨k, hk, rfl⟩ := Option.map_eq_some_iff.mp e
    obtain ⟨kvs, z1, rfl, z3⟩ := ro
    obtain ⟨b, rfl, hb⟩ := keyT_ok rv hk
    obtain ⟨e1, e2⟩ := rh_write (ov := .dtu (pKs (kvs.map Prod.fst) k) (pVs (kvs.map Prod.fst) _ k w)) rh hn ha (u := .dT (putK kvs k z)) fun ev => ⟨_, upd_same, put_fst, put_snd (rw'.mono ev) (z3.mono ev)⟩
    exact ⟨_, .t z1 hb (by simpa [sizeO] using hl), e1, e2⟩
  · cases e
end
section
variable {X : Cx} {a b c d : Expr} {ga gb gc gd : GE} {pos : Pos}
/-- d[k] -/
def kDG (Q : R → VH → Prop) (r s : R) (h : VH) : Prop := ∃ n v o w, r = .val (.ref n) ∧ s = .val v ∧ h[n]? = some o ∧ dGetO o v = some (some w) ∧ Q (.val w) h
def gDG (ga gb : GE) : GE := fun ρ h Q => ga ρ h fun r h1 => gb ρ h1 fun s h3 => kDG Q r s h3
theorem mdg (hu : X.A.units + 1 < cLine) (ha : MX X a ga) (hb : MX X b gb) (hs : NoSl b := by exact fun _ _ => rfl) : MX X (.Subscript a b pos) (gDG ga gb) := by
  obtain ⟨t, a1, a2⟩ := ha.ex
  obtain ⟨u, b1, b2⟩ := hb.ex
  refine ⟨_, pe_dget hu a1 b1 hs, fun m h H ρ σ QV Q rh re hg k => a2 m h H ρ σ _ _ rh re hg fun m1 H1 h1 r x p q => b2 m1 h1 H1 ρ σ _ _ p.rh (re.mono p.ev) q fun m3 H3 h3 s y p3 q3 => ?_⟩
  obtain ⟨n, v, o, w, rfl, rfl, hn, e, q⟩ := q3
  obtain ⟨pa, rfl, ea⟩ := RelT.ref_inv (RelR.mono p3.ev p.rr)
  obtain ⟨r', g1, g2, _⟩ := dGet_ok (p3.rh.obj n o pa hn ea) p3.rr e
  obtain ⟨z, rfl, rz⟩ := g2 w rfl
  exact ⟨pa, z, rfl, g1, k m3 H3 h3 (.val w) z ⟨p.ev.trans p3.ev, p3.rh, rz, fun _ _ z => (nomatch z)⟩ q⟩
/-- k in d, k not in d -/
def kDI (f : Bool → Bool) (Q : R → VH → Prop) (s r : R) (h : VH) : Prop := ∃ n v o w, r = .val (.ref n) ∧ s = .val v ∧ h[n]? = some o ∧ dGetO o v = some w ∧ Q (.val (.bl (f w.isSome))) h
def gDI (f : Bool → Bool) (gb ga : GE) : GE := fun ρ h Q => gb ρ h fun s h1 => ga ρ h1 fun r h3 => kDI f Q s r h3
theorem rz_di {f : Bool → Bool} {tb ta : TE} (b2 : RzE X.K tb gb) (a2 : RzE X.K ta ga) : RzE X.K (fun σ H Q => tb σ H fun y H1 => ta σ H1 fun x H2 => ∃ p o, x = .ref p ∧ DGet H2 p y o ∧ Q (.bl (f o.isSome)) H2) (gDI f gb ga) := fun m h H ρ σ QV Q rh re hg k => b2 m h H ρ σ _ _ rh re hg fun m1 H1 h1 s y p q => a2 m1 h1 H1 ρ σ _ _ p.rh (re.mono p.ev) q fun m3 H3 h3 r x p3 q3 => by
  obtain ⟨n, v, o, w, rfl, rfl, hn, e, q⟩ := q3
  obtain ⟨pa, rfl, ea⟩ := RelT.ref_inv p3.rr
  obtain ⟨r', g1, g2, g3⟩ := dGet_ok (p3.rh.obj n o pa hn ea) (RelT.mono p3.ev p.rr) e
  have es : r'.isSome = w.isSome := by
    cases w with
    | none => rw [g3 rfl]; rfl
    | some w => obtain ⟨z, rfl, _⟩ := g2 w rfl; rfl
  exact ⟨pa, r', rfl, g1, by rw [es]; exact k m3 H3 h3 _ _ ((Pst.val p3.rh .bl).from_ (p.ev.trans p3.ev) p3.rh) q⟩
theorem mdin (hu : X.A.units + 1 < cLine) (hb : MX X b gb) (ha : MX X a ga) (hm : behindInMarks .In a = false := by rfl) : MX X (.Compare b [.In] [a] pos) (gDI id gb ga) := by
  obtain ⟨t, a1, a2⟩ := ha.ex
  obtain ⟨u, b1, b2⟩ := hb.ex
  exact ⟨_, pe_cmp (pc_din hu b1 a1) hm, rz_di (f := id) b2 a2⟩
theorem mdnotin (hu : X.A.units + 1 < cLine) (hb : MX X b gb) (ha : MX X a ga) (hm : behindInMarks .NotIn a = false := by rfl) : MX X (.Compare b [.NotIn] [a] pos) (gDI not gb ga) := by
  obtain ⟨t, a1, a2⟩ := ha.ex
  obtain ⟨u, b1, b2⟩ := hb.ex
  exact ⟨_, pe_cmp (pc_dnotin hu b1 a1) hm, rz_di (f := not) b2 a2⟩
theorem mtdin (hu : X.A.units + 1 < cLine) (hb : MX X b gb) (ha : MX X a ga) (hm : behindInMarks .In a = false := by rfl) : MT X (.Compare b [.In] [a] pos) (gVal (gDI id gb ga)) := by
  obtain ⟨t, a1, a2⟩ := ha.ex
  obtain ⟨u, b1, b2⟩ := hb.ex
  exact ⟨_, pt_cmp (pc_din hu b1 a1) hm, rz_val (rz_di (f := id) b2 a2)⟩
theorem mtdnotin (hu : X.A.units + 1 < cLine) (hb : MX X b gb) (ha : MX X a ga) (hm : behindInMarks .NotIn a = false := by rfl) : MT X (.Compare b [.NotIn] [a] pos) (gVal (gDI not gb ga)) := by
  obtain ⟨t, a1, a2⟩ := ha.ex
  obtain ⟨u, b1, b2⟩ := hb.ex
  exact ⟨_, pt_cmp (pc_dnotin hu b1 a1) hm, rz_val (rz_di (f := not) b2 a2)⟩
/-- d[k] = v -/
def kDP (v : VV) (N : VL.Env → VH → Prop) (ρ : VL.Env) (s t : R) (h : VH) : Prop := ∃ n u o o', s = .val (.ref n) ∧ t = .val u ∧ h[n]? = some o ∧ dPutO o u v = some o' ∧ sizeO o < sizeLine ∧ N ρ (h.set n o')
def gDP (gv ga gi : GE) : GS := fun D ρ h => gv ρ h fun r h1 => put r h1 fun v h2 => ga ρ h2 fun s h3 => gi ρ h3 fun t h4 => kDP v D.nx ρ s t h4
theorem msdp {pv : Pos} (hu : X.A.units + 1 < cLine) (hv : MX X c gc) (ha : MX X a ga) (hb : MX X b gb) (hs : swapsWith c (some (.Subscript a b pv)) pos.line X.env = pure false := by rfl) : MS X (.Assign [.Subscript a b pv] c pos) (gDP gc ga gb) := by
  obtain ⟨t, a1, a2⟩ := ha.ex
  obtain ⟨u, b1, b2⟩ := hb.ex
  obtain ⟨w, c1, c2⟩ := hv.ex
  refine ⟨_, ps_dput hu a1 b1 c1 hs, fun m h H ρ σ D E rh re hg k => c2 m h H ρ σ _ _ rh re hg fun m1 H1 h1 r x p1 q1 => put_ok p1 q1 fun m2 h2 v e2 r2 t2 pre q2 => ?_⟩
  refine a2 m2 h2 H1 ρ σ _ _ r2 (re.mono e2) q2 fun m3 H3 h3 s y p3 q3 => b2 m3 h3 H3 ρ σ _ _ p3.rh ((re.mono e2).mono p3.ev) q3 fun m4 H4 h4 i z p4 q4 => ?_
  obtain ⟨n, uv, o, o', rfl, rfl, hn, e, hl, q⟩ := q4
  obtain ⟨pa, rfl, ea⟩ := RelT.ref_inv (RelR.mono p4.ev p3.rr)
  obtain ⟨u, g1, g2, g3⟩ := dPut_ok p4.rh hn ea p4.rr ((t2.mono p3.ev).mono p4.ev) e hl
  have e05 := ((e2.trans p3.ev).trans p4.ev).trans g2
  exact ⟨pa, _, rfl, g1, k.nx m4 _ _ ρ σ e05 g3 (re.mono e05) q⟩
/-- {} for tuples -/
def gDNewT : GE := fun _ h Q => Q (.new (.dtu [] [])) h
theorem mdnewT : MX X (.Dict [] [] pos) gDNewT := ⟨_, pe_dnewT, fun m h H ρ σ QV Q rh re hg k l hl =>
  k m _ h (.new (.dtu [] [])) (.ref l) ⟨Ev.laid hl, rh.laid hl, ⟨l, rfl, rh.fresh hl, [], upd_same, rfl, .nil⟩, fun _ a _ z => by cases z; exact hl⟩ hg⟩
end
section
variable {ρ : VL.Env} {h : VH} {Q : R → VH → Prop} {ga gb gv gi : GE} {N : VL.Env → VH → Prop} {rt : R → VH → Prop} {bk ct : VL.Env → VH → Prop} {ex : XV}
theorem t_dg (q : ga ρ h fun r h1 => gb ρ h1 fun s h3 => kDG Q r s h3) : gDG ga gb ρ h Q := q
theorem t_kdg {n : Nat} {v w : VV} {o : VO} (e1 : h[n]? = some o) (e2 : dGetO o v = some (some w)) (q : Q (.val w) h) : kDG Q (.val (.ref n)) (.val v) h := ⟨n, v, o, w, rfl, rfl, e1, e2, q⟩
theorem t_di {f : Bool → Bool} (q : gb ρ h fun s h1 => ga ρ h1 fun r h3 => kDI f Q s r h3) : gDI f gb ga ρ h Q := q
theorem t_kdi {f : Bool → Bool} {n : Nat} {v : VV} {w : Option VV} {o : VO} (e1 : h[n]? = some o) (e2 : dGetO o v = some w) (q : Q (.val (.bl (f w.isSome))) h) : kDI f Q (.val v) (.val (.ref n)) h := ⟨n, v, o, w, rfl, rfl, e1, e2, q⟩
theorem t_dp (q : gv ρ h fun r h1 => put r h1 fun v h2 => ga ρ h2 fun s h3 => gi ρ h3 fun t h4 => kDP v N ρ s t h4) : gDP gv ga gi ⟨N, rt, bk, ct, ex⟩ ρ h := q
theorem t_kdp {v u : VV} {n : Nat} {o o' : VO} (e1 : h[n]? = some o) (e2 : dPutO o u v = some o') (hl : sizeO o ≤ 100000) (q : N ρ (h.set n o')) : kDP v N ρ (.val (.ref n)) (.val u) h := ⟨n, u, o, o', rfl, rfl, e1, e2, Nat.lt_of_le_of_lt hl (by decide), q⟩
theorem t_dnT (q : Q (.new (.dtu [] [])) h) : gDNewT ρ h Q := q
theorem t_seqDP {g2 : GS} (q : gDP gv ga gi ⟨fun ρ' h' => g2 ⟨N, rt, bk, ct, ex⟩ ρ' h', rt, bk, ct, ex⟩ ρ h) : gSeq (gDP gv ga gi) g2 ⟨N, rt, bk, ct, ex⟩ ρ h := ⟨_, q, fun _ _ z => z⟩
end
end VL

set_option autoImplicit false
/-! VL32: chains of a pairing, what they find and what they don't. -/
namespace VL
open PySem L2
abbrev OL := List (Option Int)
/-- who holds a column -/
abbrev hd (os : OL) (c : Nat) : Option Int := os.getD c none
/-- all wishes of a row lie in D -/
def NS (n : Nat) (rows : List (List Int)) (x : Int) (D : Nat → Prop) : Prop := ∀ c, c < n → aij rows x.toNat c ≠ 0 → D c
/-- columns all held, by rows that wish none beyond -/
def Dead (n : Nat) (rows : List (List Int)) (os : OL) (D : Nat → Prop) : Prop := ∀ c, D c → ∃ x, hd os c = some x ∧ NS n rows x D
structure Hold (n : Nat) (rows : List (List Int)) (os : OL) (A : Nat → Prop) : Prop where
  len : os.length = n
  rng : ∀ c x, hd os c = some x → 0 ≤ x ∧ x < n
  inj : ∀ c c' x, ¬ A c → ¬ A c' → hd os c = some x → hd os c' = some x → c = c'
  wi : ∀ c x, ¬ A c → hd os c = some x → aij rows x.toNat c ≠ 0
structure GiveNo (n : Nat) (rows : List (List Int)) (row : Int) (os : OL) (A A' : Nat → Prop) : Prop where
  row : NS n rows row A'
  more : ∀ c, A' c → ¬ A c → ∃ x, hd os c = some x ∧ NS n rows x A'
structure GiveYes (n : Nat) (rows : List (List Int)) (row : Int) (os os' : OL) (A : Nat → Prop) : Prop where
  hold : Hold n rows os' A
  fro : ∀ c, A c → hd os' c = hd os c
  has : ∀ y, (∃ c, ¬ A c ∧ hd os' c = some y) ↔ (∃ c, ¬ A c ∧ hd os c = some y) ∨ y = row
  dead : ∀ D, Dead n rows os D → (∀ c, D c → hd os' c = hd os c) ∧ ¬ NS n rows row D
theorem hd_set {os : OL} {i c : Nat} {x : Option Int} (h : i < os.length) : hd (os.set i x) c = if c = i then x else hd os c := getD_set h
section
variable {n : Nat} {rows : List (List Int)} {row : Int} {os os2 : OL} {A : Nat → Prop} {i : Nat}
theorem NS.mono {x : Int} {D D' : Nat → Prop} (h : NS n rows x D) (s : ∀ c, D c → D' c) : NS n rows x D' := fun c h1 h2 => s c (h c h1 h2)
/-- a free column -/
theorem give_free (H : Hold n rows os A) (hi : i < n) (nA : ¬ A i) (free : hd os i = none) (r0 : 0 ≤ row ∧ row < n) (nr : ∀ c, ¬ A c → hd os c ≠ some row) (w : aij rows row.toNat i ≠ 0) : GiveYes n rows row os (os.set i (some row)) A := by
  have hl : i < os.length := by rw [H.len]; exact hi
  have out : ∀ c, c ≠ i → hd (os.set i (some row)) c = hd os c := fun c h => by rw [hd_set hl, if_neg h]
  have at_ : hd (os.set i (some row)) i = some row := by rw [hd_set hl, if_pos rfl]
  refine ⟨⟨by rw [List.length_set]; exact H.len, fun c x e => ?_, fun c c' x h1 h2 e1 e2 => ?_, fun c x h e => ?_⟩, fun c hc => out c fun e => nA (e ▸ hc), fun y => ⟨?_, ?_⟩, fun D hD => ⟨fun c hc => out c fun e => ?_, fun hs => ?_⟩⟩
  · by_cases ci : c = i
    · rw [ci, at_] at e; cases e; exact r0
    · rw [out c ci] at e; exact H.rng c x e
  · by_cases ci : c = i
    · by_cases ci' : c' = i
      · rw [ci, ci']
      · rw [ci, at_] at e1; cases e1
        rw [out c' ci'] at e2; exact absurd e2 (nr c' h2)
    · by_cases ci' : c' = i
      · rw [ci', at_] at e2; cases e2
        rw [out c ci] at e1; exact absurd e1 (nr c h1)
      · rw [out c ci] at e1; rw [out c' ci'] at e2
        exact H.inj c c' x h1 h2 e1 e2
  · by_cases ci : c = i
    · rw [ci, at_] at e; cases e; rw [ci]; exact w
    · rw [out c ci] at e; exact H.wi c x h e
  · rintro ⟨c, h1, e⟩
    by_cases ci : c = i
    · rw [ci, at_] at e; cases e; exact .inr rfl
    · rw [out c ci] at e; exact .inl ⟨c, h1, e⟩
  · rintro (⟨c, h1, e⟩ | rfl)
    · have ci : c ≠ i := fun z => by rw [z, free] at e; cases e
      exact ⟨c, h1, by rw [out c ci]; exact e⟩
    · exact ⟨i, nA, at_⟩
  · obtain ⟨x, hx, _⟩ := hD c hc
    rw [e, free] at hx; cases hx
  · obtain ⟨x, hx, _⟩ := hD i (hs i hi w)
    rw [free] at hx; cases hx
/-- a holder that found another one; B: what was asked by then -/
theorem give_on {B : Nat → Prop} {x : Int} (H : Hold n rows os A) (hi : i < n) (sub : ∀ c, A c → B c) (nB : ¬ B i) (held : hd os i = some x) (r0 : 0 ≤ row ∧ row < n) (nr : ∀ c, ¬ A c → hd os c ≠ some row) (w : aij rows row.toNat i ≠ 0)
    (Y : GiveYes n rows x os os2 (fun c => B c ∨ c = i)) : GiveYes n rows row os (os2.set i (some row)) A := by
  have hl : i < os2.length := by rw [Y.hold.len]; exact hi
  have nA : ¬ A i := fun z => nB (sub i z)
  have out : ∀ c, c ≠ i → hd (os2.set i (some row)) c = hd os2 c := fun c h => by rw [hd_set hl, if_neg h]
  have at_ : hd (os2.set i (some row)) i = some row := by rw [hd_set hl, if_pos rfl]
  have fro : ∀ c, B c → hd os2 c = hd os c := fun c hc => Y.fro c (.inl hc)
  have xr : x ≠ row := fun e => nr i nA (e ▸ held)
  -- what stands beyond B and i
  have far : ∀ c y, ¬ (B c ∨ c = i) → hd os2 c = some y → (∃ c', ¬ (B c' ∨ c' = i) ∧ hd os c' = some y) ∨ y = x := fun c y h e => (Y.has y).mp ⟨c, h, e⟩
  have notrow : ∀ c, c ≠ i → ¬ A c → hd os2 c ≠ some row := fun c ci hA e => by
    by_cases hB : B c
    · rw [fro c hB] at e; exact nr c hA e
    · rcases far c row (fun z => z.elim hB ci) e with ⟨c', h', e'⟩ | e'
      · exact nr c' (fun z => h' (.inl (sub c' z))) e'
      · exact xr e'.symm
  refine ⟨⟨by rw [List.length_set]; exact Y.hold.len, fun c y e => ?_, fun c c' y h1 h2 e1 e2 => ?_, fun c y h e => ?_⟩, fun c hc => ?_, fun y => ⟨?_, ?_⟩, fun D hD => ?_⟩
  · by_cases ci : c = i
    · rw [ci, at_] at e; cases e; exact r0
    · rw [out c ci] at e; exact Y.hold.rng c y e
  · by_cases ci : c = i
    · by_cases ci' : c' = i
      · rw [ci, ci']
      · rw [ci, at_] at e1; cases e1
        rw [out c' ci'] at e2; exact absurd e2 (notrow c' ci' h2)
    · by_cases ci' : c' = i
      · rw [ci', at_] at e2; cases e2
        rw [out c ci] at e1; exact absurd e1 (notrow c ci h1)
      · rw [out c ci] at e1; rw [out c' ci'] at e2
        by_cases hB : B c
        · rw [fro c hB] at e1
          by_cases hB' : B c'
          · rw [fro c' hB'] at e2; exact H.inj c c' y h1 h2 e1 e2
          · rcases far c' y (fun z => z.elim hB' ci') e2 with ⟨z, hz, ez⟩ | rfl
            · have := H.inj c z y h1 (fun q => hz (.inl (sub z q))) e1 ez
              exact absurd (.inl (this ▸ hB)) hz
            · exact absurd (H.inj c i y h1 nA e1 held) ci
        · by_cases hB' : B c'
          · rw [fro c' hB'] at e2
            rcases far c y (fun z => z.elim hB ci) e1 with ⟨z, hz, ez⟩ | rfl
            · have := H.inj c' z y h2 (fun q => hz (.inl (sub z q))) e2 ez
              exact absurd (.inl (this ▸ hB')) hz
            · exact absurd (H.inj c' i y h2 nA e2 held) ci'
          · exact Y.hold.inj c c' y (fun z => z.elim hB ci) (fun z => z.elim hB' ci') e1 e2
  · by_cases ci : c = i
    · rw [ci, at_] at e; cases e; rw [ci]; exact w
    · rw [out c ci] at e
      by_cases hB : B c
      · rw [fro c hB] at e; exact H.wi c y h e
      · exact Y.hold.wi c y (fun z => z.elim hB ci) e
  · have ci : c ≠ i := fun e => nA (e ▸ hc)
    rw [out c ci]; exact fro c (sub c hc)
  · rintro ⟨c, h1, e⟩
    by_cases ci : c = i
    · rw [ci, at_] at e; cases e; exact .inr rfl
    · rw [out c ci] at e
      by_cases hB : B c
      · rw [fro c hB] at e; exact .inl ⟨c, h1, e⟩
      · rcases far c y (fun z => z.elim hB ci) e with ⟨z, hz, ez⟩ | rfl
        · exact .inl ⟨z, fun q => hz (.inl (sub z q)), ez⟩
        · exact .inl ⟨i, nA, held⟩
  · rintro (⟨c, h1, e⟩ | rfl)
    · by_cases hB : B c
      · have ci : c ≠ i := fun z => nB (z ▸ hB)
        exact ⟨c, h1, by rw [out c ci, fro c hB]; exact e⟩
      · obtain ⟨z, hz, ez⟩ : ∃ z, ¬ (B z ∨ z = i) ∧ hd os2 z = some y := by
          refine (Y.has y).mpr ?_
          by_cases ci : c = i
          · right; rw [ci, held] at e; cases e; rfl
          · exact .inl ⟨c, fun q => q.elim hB ci, e⟩
        exact ⟨z, fun q => hz (.inl (sub z q)), by rw [out z fun q => hz (.inr q)]; exact ez⟩
    · exact ⟨i, nA, at_⟩
  · obtain ⟨d1, d2⟩ := Y.dead D hD
    have ni : ¬ D i := fun hc => by
      obtain ⟨z, hz, hs⟩ := hD i hc
      rw [held] at hz; cases hz
      exact d2 hs
    exact ⟨fun c hc => by rw [out c fun e => ni (e ▸ hc)]; exact d1 c hc, fun hs => ni (hs i hi w)⟩
/-- the premise for the holder's own search -/
theorem Hold.sub {B : Nat → Prop} (H : Hold n rows os A) (s : ∀ c, A c → B c) : Hold n rows os B :=
  ⟨H.len, H.rng, fun c c' x h1 h2 => H.inj c c' x (fun z => h1 (s c z)) (fun z => h2 (s c' z)), fun c x h => H.wi c x fun z => h (s c z)⟩
end
/-! ### all rows -/
structure GrInv (n : Nat) (rows : List (List Int)) (r : Nat) (os : OL) : Prop where
  hold : Hold n rows os (fun _ => False)
  lt : ∀ c x, hd os c = some x → x < r
  dead : ∃ D, Dead n rows os D ∧ ∀ y : Nat, y < r → (∀ c, hd os c ≠ some (y : Int)) → NS n rows y D
theorem GrInv.zero {n : Nat} {rows : List (List Int)} : GrInv n rows 0 (List.replicate n none) := by
  have no : ∀ c, hd (List.replicate n (none : Option Int)) c = none := fun c => by
    unfold hd
    rw [List.getD_eq_getElem?_getD, List.getElem?_replicate]
    split <;> rfl
  exact ⟨⟨by simp, fun c x e => (by rw [no] at e; cases e), fun c c' x _ _ e => (by rw [no] at e; cases e), fun c x _ e => (by rw [no] at e; cases e)⟩, fun c x e => (by rw [no] at e; cases e), fun _ => False, fun c h => h.elim, fun y h => absurd h (by omega)⟩
theorem GrInv.yes {n r : Nat} {rows : List (List Int)} {os os' : OL} (G : GrInv n rows r os) (Y : GiveYes n rows r os os' (fun _ => False)) : GrInv n rows (r + 1) os' := by
  obtain ⟨D, d1, d2⟩ := G.dead
  have f := (Y.dead D d1).1
  refine ⟨Y.hold, fun c x e => ?_, D, fun c hc => ?_, fun y hy no => ?_⟩
  · rcases (Y.has x).mp ⟨c, id, e⟩ with ⟨c', _, e'⟩ | rfl
    · have := G.lt c' x e'; omega
    · omega
  · rw [f c hc]; exact d1 c hc
  · by_cases e : y = r
    · subst e
      obtain ⟨c, _, hc⟩ := (Y.has y).mpr (.inr rfl)
      exact absurd hc (no c)
    · refine d2 y (by omega) fun c hc => ?_
      obtain ⟨c', _, e'⟩ := (Y.has y).mpr (.inl ⟨c, id, hc⟩)
      exact no c' e'
theorem GrInv.no {n r : Nat} {rows : List (List Int)} {os : OL} {A : Nat → Prop} (G : GrInv n rows r os) (Y : GiveNo n rows r os (fun _ => False) A) : GrInv n rows (r + 1) os := by
  obtain ⟨D, d1, d2⟩ := G.dead
  refine ⟨G.hold, fun c x e => by have := G.lt c x e; omega, fun c => D c ∨ A c, fun c hc => ?_, fun y hy no => ?_⟩
  · rcases hc with hc | hc
    · obtain ⟨x, h1, h2⟩ := d1 c hc
      exact ⟨x, h1, h2.mono fun _ => .inl⟩
    · obtain ⟨x, h1, h2⟩ := Y.more c hc id
      exact ⟨x, h1, h2.mono fun _ => .inr⟩
  · by_cases e : y = r
    · subst e; exact Y.row.mono fun _ => .inr
    · exact (d2 y (by omega) no).mono fun _ => .inl
end VL

set_option autoImplicit false
/-! VL33: a dict of asked columns; two objects of a heap. -/
namespace VL
open PySem L2
def ikey (c : Nat) : Key := Sum.inl (c : Int)
def askO (A : List Nat) : VO := .dic (A.map ikey) (A.map fun _ => .bl true)
theorem ikey_inj {a b : Nat} (h : ikey a = ikey b) : a = b := by
  unfold ikey at h
  have := Sum.inl.inj h
  omega
theorem ask_v (c : Nat) : ∀ A : List Nat, vG (A.map ikey) (A.map fun _ => VV.bl true) (ikey c) = if c ∈ A then some (.bl true) else none
  | [] => rfl
  | a :: A => by
    rw [List.map_cons, List.map_cons, vG, ask_v c A]
    by_cases e : ikey a = ikey c
    · rw [if_pos e, if_pos (by rw [ikey_inj e]; simp)]
    · rw [if_neg e]
      have : a ≠ c := fun z => e (by rw [z])
      by_cases h : c ∈ A
      · rw [if_pos h, if_pos (by simp [h])]
      · rw [if_neg h, if_neg (by simp [h, Ne.symm this])]
theorem ask_get {A : List Nat} {c : Nat} : dGetO (askO A) (.int c) = some (if c ∈ A then some (.bl true) else none) := by
  show (keyOf (.int (c : Int))).map _ = _
  rw [show keyOf (.int (c : Int)) = some (ikey c) from rfl, Option.map_some, ask_v]
theorem ask_put {A : List Nat} {c : Nat} (h : c ∉ A) : dPutO (askO A) (.int c) (.bl true) = some (askO (A ++ [c])) := by
  unfold dPutO askO
  dsimp only
  have : ikey c ∉ A.map ikey := fun z => by
    obtain ⟨x, hx, e⟩ := List.mem_map.mp z
    exact h (ikey_inj e ▸ hx)
  rw [show keyOf (.int (c : Int)) = some (ikey c) from rfl, Option.map_some]
  unfold pKs pVs
  rw [if_neg this, if_neg this, List.map_append, List.map_append]; rfl
theorem ask_nil : VO.dic [] [] = askO [] := rfl
/-- a list of holders at a, a dict of asked ones at b -/
def S2 (h : VH) (a b : Nat) (os : OL) (A : List Nat) : VH := (h.set a (.lst (os.map ov))).set b (askO A)
section
variable {h : VH} {a b : Nat} {os os' : OL} {A A' : List Nat}
theorem set_self {α : Type} : ∀ {l : List α} {i : Nat} {x : α}, l[i]? = some x → l.set i x = l
  | [], i, x, e => by simp at e
  | y :: l, 0, x, e => by simp at e; rw [List.set_cons_zero, e]
  | y :: l, i + 1, x, e => by rw [List.set_cons_succ, set_self (l := l) (by simpa using e)]
theorem s2_self (ea : h[a]? = some (.lst (os.map ov))) (eb : h[b]? = some (askO A)) : S2 h a b os A = h := by
  unfold S2
  rw [set_self ea, set_self eb]
theorem s2_len : (S2 h a b os A).length = h.length := by simp [S2]
theorem s2_a (ne : a ≠ b) (ha : a < h.length) : (S2 h a b os A)[a]? = some (.lst (os.map ov)) := by
  unfold S2
  rw [List.getElem?_set_ne (Ne.symm ne), List.getElem?_set_self ha]
theorem s2_b (hb : b < h.length) : (S2 h a b os A)[b]? = some (askO A) := by
  unfold S2
  rw [List.getElem?_set_self (by simpa using hb)]
theorem s2_o {k : Nat} (h1 : k ≠ a) (h2 : k ≠ b) : (S2 h a b os A)[k]? = h[k]? := by
  unfold S2
  rw [List.getElem?_set_ne (Ne.symm h2), List.getElem?_set_ne (Ne.symm h1)]
theorem s2_seta (ne : a ≠ b) : (S2 h a b os A).set a (.lst (os'.map ov)) = S2 h a b os' A := by
  unfold S2
  rw [List.set_comm _ _ (Ne.symm ne), List.set_set]
theorem s2_seta' (ne : a ≠ b) (r i : Nat) : (S2 h a b os A).set a (.lst ((os.map ov).set ((i : Int)).toNat (.int r))) = S2 h a b (os.set i (some (r : Int))) A := by
  rw [show (os.map ov).set ((i : Int)).toNat (VV.int r) = (os.set i (some (r : Int))).map ov by rw [List.map_set]; rfl]
  exact s2_seta ne
theorem s2_setb : (S2 h a b os A).set b (askO A') = S2 h a b os A' := by
  unfold S2
  rw [List.set_set]
theorem s2_idem (ne : a ≠ b) : S2 (S2 h a b os A) a b os' A' = S2 h a b os' A' := by
  unfold S2
  rw [List.set_comm _ _ (Ne.symm ne) (l := h.set a _), List.set_set, List.set_set]
end
end VL

set_option autoImplicit false
/-! VL34: pairs sorted. -/
namespace VL
open PySem L2 PySem.Spec PyProof.Rows
section
variable {X : Cx}
/-! ### sorted pairs -/
def pairAt (H : Hp) : V → Int × Int
  | .ref t => match H t with
    | some (.tup [.int i, .int j]) => (i, j)
    | _ => (0, 0)
  | _ => (0, 0)
theorem pairAt_eq {H : Hp} {t : Addr} {i j : Int} (e : H t = some (.tup [.int i, .int j])) : pairAt H (.ref t) = (i, j) := by
  unfold pairAt
  simp only [e]
theorem rels_pv {K : PySem.W.Frag} {m : List Addr} {H : Hp} {p : Int × Int} {y : V} (r : RelT K m H (pv p) y) : ∃ t, y = .ref t ∧ H t = some (.tup [.int p.1, .int p.2]) := by
  obtain ⟨t, ys, e1, e2, e3⟩ := RelT.tup_raw r
  have : ys = [p.1, p.2].map V.int := e3.ints (ns := [p.1, p.2])
  subst this
  exact ⟨t, e1, e2⟩
abbrev lexLe (p q : Int × Int) : Prop := SrtO.lexB q p = false
def guSortP : GU := fun x h Q => ∃ ps : List (Int × Int), lstOf h x = some (ps.map pv) ∧ ∀ qs : List (Int × Int), qs.Perm ps → qs.Pairwise lexLe → Q (.new (.lst (qs.map pv))) h
theorem mc_sortP : MC1 X (.builtin "sorted") guSortP := by
  refine ⟨_, cr_sortedPO, fun m h H x rx QV Q rh r1 q k => ?_⟩
  obtain ⟨ps, e, q⟩ := q
  obtain ⟨p, ys, rfl, hp, rr⟩ := lstOf_ok rh r1 e
  have each : ∀ y ∈ ys, ∃ t, y = .ref t ∧ H t = some (.tup [.int (pairAt H y).1, .int (pairAt H y).2]) := fun y hy => by
    obtain ⟨i, hi⟩ := List.mem_iff_getElem?.mp hy
    obtain ⟨w, hw, rw'⟩ := rr.getV hi
    rw [List.getElem?_map] at hw
    obtain ⟨c, _, rfl⟩ := Option.map_eq_some_iff.mp hw
    obtain ⟨t, rfl, ht⟩ := rels_pv rw'
    exact ⟨t, rfl, by rw [pairAt_eq ht]; exact ht⟩
  have back : ∀ {zs : List V}, (∀ y ∈ zs, y ∈ ys) → Rels X.K m H ((zs.map (pairAt H)).map pv) zs := fun {zs} hz => ⟨by simp, fun i v y e1 e2 => by
    rw [List.getElem?_map, List.getElem?_map, e2] at e1
    cases e1
    obtain ⟨t, rfl, ht⟩ := each y (hz y (List.mem_of_getElem? e2))
    exact .tup ht rfl fun i v w e1 e2 => by
      rcases i with _ | _ | i
      · simp at e1 e2; subst e1 e2; exact .int
      · simp at e1 e2; subst e1 e2; exact .int
      · simp at e1⟩
  have eps : ps = ys.map (pairAt H) := by
    apply List.ext_getElem?
    intro i
    rw [List.getElem?_map]
    cases e : ps[i]? with
    | none =>
      have := List.getElem?_eq_none_iff.mp e
      rw [List.getElem?_eq_none (by rw [← rr.len, List.length_map]; exact this)]; rfl
    | some c =>
      obtain ⟨y, hy, ry⟩ := rr.get (i := i) (x := pv c) (by rw [List.getElem?_map, e]; rfl)
      obtain ⟨t, rfl, ht⟩ := rels_pv ry
      rw [hy, Option.map_some, pairAt_eq ht]
  refine ⟨p, ys, pairAt H, rfl, .of hp, fun y hy => each y hy, fun zs l hs hb hl => ?_⟩
  have perm : zs.Perm ys := SrtO.Stb.perm hb
  refine k m _ h _ _ (.lst rh hl (back fun y hy => perm.mem_iff.mp hy)) (q _ (by rw [eps]; exact perm.map _) ?_)
  exact List.Pairwise.map _ (fun _ _ z => z) hs
end
end VL

set_option autoImplicit false
/-! VL35: fields (by their place among the class's names), methods, instances. -/
namespace VL
open PySem L2
/-- what the names of a class's fields are -/
structure Fld (FS : List Str) (i : Nat) (f : Str) : Prop where
  nd : FS.Nodup
  at_ : FS[i]? = some f
section
variable {FS : List Str} {i : Nat} {f : Str}
theorem Fld.fst {ys : List (Str × V)} {k j : Nat} (F : Fld FS i f) (e : ys.map Prod.fst = FS.take k) {g : Str} {v : V} (h : ys[j]? = some (g, v)) : g = f ↔ j = i := by
  have h1 : (FS.take k)[j]? = some g := by rw [← e, List.getElem?_map, h]; rfl
  rw [List.getElem?_take] at h1
  split at h1
  · have hj := (List.getElem?_eq_some_iff.mp h1)
    have hi := (List.getElem?_eq_some_iff.mp F.at_)
    constructor
    · intro z
      have := (List.pairwise_iff_getElem.mp F.nd)
      rcases Nat.lt_trichotomy j i with q | q | q
      · exact absurd (by rw [hj.2, hi.2]; exact z) (this j i hj.1 hi.1 q)
      · exact q
      · exact absurd (by rw [hj.2, hi.2]; exact z.symm) (this i j hi.1 hj.1 q)
    · intro z; subst z; rw [F.at_] at h1; exact (Option.some.inj h1).symm
  · cases h1
theorem lookup_at : ∀ {ys : List (Str × V)} {i : Nat} {v : V}, ys[i]? = some (f, v) → (∀ (j : Nat) (g : Str) (w : V), ys[j]? = some (g, w) → (g = f ↔ j = i)) → ys.lookup f = some v
  | [], i, v, e, _ => by simp at e
  | (g, w) :: ys, 0, v, e, h => by
    simp at e
    obtain ⟨rfl, rfl⟩ := e
    simp [List.lookup]
  | (g, w) :: ys, i + 1, v, e, h => by
    have hg : ¬ g = f := fun z => by have := (h 0 g w (by simp)).mp z; omega
    have hb : (f == g) = false := beq_eq_false_iff_ne.mpr fun z => hg z.symm
    rw [List.lookup, hb]
    exact lookup_at (ys := ys) (i := i) (by simpa using e) fun j g' w' e' => by
      have := h (j + 1) g' w' (by simpa using e')
      exact ⟨fun z => by have := this.mp z; omega, fun z => this.mpr (by omega)⟩
theorem lookup_no : ∀ {ys : List (Str × V)}, (∀ p ∈ ys, p.1 ≠ f) → ys.lookup f = none
  | [], _ => rfl
  | (g, w) :: ys, h => by
    have hb : (f == g) = false := beq_eq_false_iff_ne.mpr fun z => h (g, w) (by simp) z.symm
    rw [List.lookup, hb]
    exact lookup_no fun p hp => h p (by simp [hp])
theorem putF_at {y : V} : ∀ {ys : List (Str × V)} {i : Nat}, i < ys.length → (∀ (j : Nat) (g : Str) (w : V), ys[j]? = some (g, w) → (g = f ↔ j = i)) → putF f y ys = ys.set i (f, y)
  | [], i, hi, _ => by simp at hi
  | (g, w) :: ys, 0, hi, h => by
    have : g = f := (h 0 g w (by simp)).mpr rfl
    rw [putF, if_pos this, this]; rfl
  | (g, w) :: ys, i + 1, hi, h => by
    have hg : ¬ g = f := fun z => by have := (h 0 g w (by simp)).mp z; omega
    rw [putF, if_neg hg, List.set_cons_succ, putF_at (by simpa using hi) fun j g' w' e' => by
      have := h (j + 1) g' w' (by simpa using e')
      exact ⟨fun z => by have := this.mp z; omega, fun z => this.mpr (by omega)⟩]
theorem putF_new {y : V} : ∀ {ys : List (Str × V)}, (∀ p ∈ ys, p.1 ≠ f) → putF f y ys = ys ++ [(f, y)]
  | [], _ => rfl
  | (g, w) :: ys, h => by
    rw [putF, if_neg (h (g, w) (by simp)), putF_new fun p hp => h p (by simp [hp])]; rfl
/-- values behind self.f = v -/
def setAt (vs : List VV) (i : Nat) (v : VV) : List VV := if i < vs.length then vs.set i v else vs ++ [v]
variable {K : PySem.W.Frag} {m : List Addr} {H : Hp}
theorem put_rel {ys : List (Str × V)} {vs : List VV} {v : VV} {y : V} (F : Fld FS i f) (e : ys.map Prod.fst = FS.take vs.length) (r : Rels K m H vs (ys.map Prod.snd)) (hi : i ≤ vs.length) (ry : RelT K m H v y) :
    (putF f y ys).map Prod.fst = FS.take (setAt vs i v).length ∧ Rels K m H (setAt vs i v) ((putF f y ys).map Prod.snd) := by
  have ly : vs.length = ys.length := by simpa using r.len
  have fl := (List.getElem?_eq_some_iff.mp F.at_)
  unfold setAt
  by_cases c : i < vs.length
  · rw [if_pos c, putF_at (by omega) fun j g w h => F.fst e h, List.map_set, List.map_set, List.length_set]
    refine ⟨?_, r.set ry i⟩
    rw [e, set_self]
    rw [List.getElem?_take, if_pos c]; exact F.at_
  · have ei : i = vs.length := by omega
    rw [if_neg c, putF_new fun p hp => fun z => ?_, List.map_append, List.map_append, List.length_append]
    · refine ⟨?_, r.append (.cons ry .nil)⟩
      rw [e, List.length_singleton, List.take_add_one, ← ei, F.at_]; rfl
    · obtain ⟨j, hj⟩ := List.mem_iff_getElem?.mp hp
      have := (F.fst e (v := p.2) (g := p.1) (by simpa using hj)).mp z
      have := (List.getElem?_eq_some_iff.mp hj).1
      omega
end
section
variable {X : Cx} {a b c : Expr} {ga gb gc : GE} {pos : Pos} {es : List Expr} {gr : GA}
/-! ### o.f -/
def kFld (C : Addr) (FS : List Str) (i : Nat) (Q : R → VH → Prop) (r : R) (h : VH) : Prop := ∃ n vs v, r = .val (.ref n) ∧ h[n]? = some (.ins C FS vs) ∧ vs[i]? = some v ∧ Q (.val v) h
def gFld (C : Addr) (FS : List Str) (i : Nat) (ga : GE) : GE := fun ρ h Q => ga ρ h fun r h1 => kFld C FS i Q r h1
theorem mfld {C : Addr} {FS : List Str} {i : Nat} {f : Str} (cl : Cls X.K C) (F : Fld FS i f) (na : NoAttr X.K C f) (ha : MX X a ga) (hb : attributeBase a f X.env (eval a X.env) = eval a X.env := by rfl) : MX X (.Attribute a f pos) (gFld C FS i ga) := by
  obtain ⟨t, a1, a2⟩ := ha.ex
  refine ⟨_, pe_fld a1 hb, fun m h H ρ σ QV Q rh re hg k => a2 m h H ρ σ _ _ rh re hg fun m1 H1 h1 r x p q => ?_⟩
  obtain ⟨n, vs, v, rfl, hn, hv, q⟩ := q
  obtain ⟨pa, rfl, ea⟩ := RelT.ref_inv p.rr
  obtain ⟨dx, ys, z1, z2, z3⟩ := p.rh.obj n _ pa hn ea
  obtain ⟨y, hy, ry⟩ := z3.get hv
  rw [List.getElem?_map] at hy
  obtain ⟨⟨g, y'⟩, hy', rfl⟩ := Option.map_eq_some_iff.mp hy
  have eg : g = f := (F.fst z2 hy').mpr rfl
  subst eg
  exact ⟨pa, C, dx, ys, y', rfl, z1, cl, na, lookup_at hy' fun j g' w h => F.fst z2 h, k m1 H1 h1 (.val v) y' ⟨p.ev, p.rh, ry, fun _ _ z => nomatch z⟩ q⟩
/-! ### o.f = v -/
def kFS (C : Addr) (FS : List Str) (i : Nat) (v : VV) (N : VL.Env → VH → Prop) (ρ : VL.Env) (s : R) (h : VH) : Prop := ∃ n vs, s = .val (.ref n) ∧ h[n]? = some (.ins C FS vs) ∧ i ≤ vs.length ∧ vs.length < 900 ∧ N ρ (h.set n (.ins C FS (setAt vs i v)))
def gFS (C : Addr) (FS : List Str) (i : Nat) (gv ga : GE) : GS := fun D ρ h => gv ρ h fun r h1 => put r h1 fun v h2 => ga ρ h2 fun s h3 => kFS C FS i v D.nx ρ s h3
theorem msfs {C : Addr} {FS : List Str} {i : Nat} {f : Str} {p' : Pos} (cl : Cls X.K C) (F : Fld FS i f) (na : NoAttr X.K C f) (hv : MX X c gc) (ha : MX X a ga) (hs : swapsWith c (some (.Attribute a f p')) pos.line X.env = pure false := by rfl) : MS X (.Assign [.Attribute a f p'] c pos) (gFS C FS i gc ga) := by
  obtain ⟨t, a1, a2⟩ := ha.ex
  obtain ⟨w, c1, c2⟩ := hv.ex
  refine ⟨_, ps_fld a1 c1 hs, fun m h H ρ σ D E rh re hg k => c2 m h H ρ σ _ _ rh re hg fun m1 H1 h1 r x p1 q1 => put_ok p1 q1 fun m2 h2 v e2 r2 t2 pre q2 => ?_⟩
  refine a2 m2 h2 H1 ρ σ _ _ r2 (re.mono e2) q2 fun m3 H3 h3 s y p3 q3 => ?_
  obtain ⟨n, vs, rfl, hn, hi, hl, q⟩ := q3
  obtain ⟨pa, rfl, ea⟩ := RelT.ref_inv p3.rr
  obtain ⟨dx, ys, z1, z2, z3⟩ := p3.rh.obj n _ pa hn ea
  have ly : vs.length = ys.length := by simpa using z3.len
  have tv := t2.mono p3.ev
  obtain ⟨e5, r5⟩ := rh_write (ov := .ins C FS (setAt vs i v)) p3.rh hn ea (u := .ins C dx (putF f x ys)) fun ev => by
    obtain ⟨q1, q2⟩ := put_rel F z2 (z3.mono ev) hi (tv.mono ev)
    exact ⟨dx, _, upd_same, q1, q2⟩
  have e05 := (e2.trans p3.ev).trans e5
  exact ⟨pa, C, dx, ys, rfl, z1, cl, na, by omega, k.nx _ _ _ ρ σ e05 r5 (re.mono e05) q⟩
/-! ### o.f += v, whole numbers -/
def kFA (C : Addr) (FS : List Str) (i : Nat) (g : Int → Int → Int) (gv : GE) (N : VL.Env → VH → Prop) (ρ : VL.Env) (s : R) (h : VH) : Prop := ∃ n vs z, s = .val (.ref n) ∧ h[n]? = some (.ins C FS vs) ∧ vs[i]? = some (.int z) ∧
  gv ρ h fun r h2 => ∃ j us, r = .val (.int j) ∧ h2[n]? = some (.ins C FS us) ∧ i < us.length ∧ us.length < 900 ∧ N ρ (h2.set n (.ins C FS (us.set i (.int (g z j)))))
def gFA (C : Addr) (FS : List Str) (i : Nat) (g : Int → Int → Int) (ga gv : GE) : GS := fun D ρ h => ga ρ h fun s h1 => kFA C FS i g gv D.nx ρ s h1
theorem msfa {C : Addr} {FS : List Str} {i : Nat} {f : Str} {op : Operator} {g : Int → Int → Int} {p' : Pos} (hop : InOp X op fun x y H Q => ∃ i j, x = .int i ∧ y = .int j ∧ Q (.int (g i j)) H) (cl : Cls X.K C) (F : Fld FS i f) (na : NoAttr X.K C f) (ha : MX X a ga) (hv : MX X c gc) : MS X (.AugAssign (.Attribute a f p') op c pos) (gFA C FS i g ga gc) := by
  obtain ⟨t, a1, a2⟩ := ha.ex
  obtain ⟨w, c1, c2⟩ := hv.ex
  refine ⟨_, ps_fldaug a1 c1 hop, fun m h H ρ σ D E rh re hg k => a2 m h H ρ σ _ _ rh re hg fun m1 H1 h1 s y p1 q1 => ?_⟩
  obtain ⟨n, vs, z, rfl, hn, hv, q⟩ := q1
  obtain ⟨pa, rfl, ea⟩ := RelT.ref_inv p1.rr
  obtain ⟨dx, ys, z1, z2, z3⟩ := p1.rh.obj n _ pa hn ea
  obtain ⟨y, hy, ry⟩ := z3.get hv
  cases ry.int_inv
  rw [List.getElem?_map] at hy
  obtain ⟨⟨g', y'⟩, hy', e'⟩ := Option.map_eq_some_iff.mp hy
  have eg : g' = f := (F.fst z2 hy').mpr rfl
  subst eg
  simp only at e'
  subst e'
  refine ⟨pa, C, dx, ys, .int z, rfl, z1, cl, na, lookup_at hy' fun j g' w h => F.fst z2 h, ?_⟩
  refine c2 m1 h1 H1 ρ σ _ _ p1.rh (re.mono p1.ev) q fun m3 H3 h3 r x p3 q3 => ?_
  obtain ⟨j, us, rfl, hn3, hi, hl, q⟩ := q3
  cases RelT.int_inv p3.rr
  have ea3 := p3.ev.pre _ _ ea
  obtain ⟨dx3, ys3, w1, w2, w3⟩ := p3.rh.obj n _ pa hn3 ea3
  have ly : us.length = ys3.length := by simpa using w3.len
  obtain ⟨e5, r5⟩ := rh_write (ov := .ins C FS (us.set i (.int (g z j)))) p3.rh hn3 ea3 (u := .ins C dx3 (putF g' (.int (g z j)) ys3)) fun ev => by
    obtain ⟨q1, q2⟩ := put_rel F w2 (w3.mono ev) (Nat.le_of_lt hi) (RelT.int (i := g z j))
    unfold setAt at q1 q2
    rw [if_pos hi] at q1 q2
    exact ⟨dx3, _, upd_same, q1, q2⟩
  have e05 := (p1.ev.trans p3.ev).trans e5
  exact ⟨z, j, rfl, rfl, dx3, ys3, w1, by omega, k.nx _ _ _ ρ σ e05 r5 (re.mono e05) q⟩
/-! ### o.m(..) -/
def kMeth (C : Addr) (FS : List Str) (n : Nat) (S : GC) (gr : GA) (ρ : VL.Env) (Q : R → VH → Prop) (r : R) (h : VH) : Prop := ∃ k vs, r = .val (.ref k) ∧ h[k]? = some (.ins C FS vs) ∧ gr ρ h fun as h2 => as.length = n ∧ S (.ref k :: as) h2 Q
def gMeth (C : Addr) (FS : List Str) (n : Nat) (S : GC) (ga : GE) (gr : GA) : GE := fun ρ h Q => ga ρ h fun r h1 => kMeth C FS n S gr ρ Q r h1
theorem no_field {C : Addr} {FS : List Str} {mm : Str} {dx : Addr} {ys : List (Str × V)} {k : Nat} (hm : mm ∉ FS) (e : ys.map Prod.fst = FS.take k) : ys.lookup mm = none :=
  lookup_no fun p hp z => hm (List.mem_of_mem_take (by rw [← e]; exact List.mem_map.mpr ⟨p, hp, z⟩))
theorem mmeth {pl : Sem Bool} {C f : Addr} {FS : List Str} {mm : Str} {apos : Pos} {n k : Nat} {fd : FuncData} {ps : List Str} {S : GC} {e : Expr} (cl : Cls X.K C) (hmm : mm ∉ FS) (hm : Meth X.K C mm f) (F : FnOk X.prog X.w X.K X.mg X.base CX0 k f fd ps (spOf X.K ps.length S)) (hr : Room k X.A) (hb : Binds X.K fd ps [])
    (ha : MX X a ga) (hr2 : MA X (e :: es) gr) (hl : ps.length = n + 1 := by rfl) (hst : starEach (e :: es) X.env = (false, eval e X.env) :: starEach es X.env := by rfl) (hpl : (backTo pos (starEach es X.env)).any (·.1) = false := by rfl)
    (ht : eval (.Call (.Attribute a mm apos) (e :: es) [] pos) X.env = (do
      let ov ← eval a X.env
      standAt apos.atName
      let (f, first) ← holding [ov] (getMethod ov mm pl)
      callWith pos f first (backTo pos (starEach (e :: es) X.env)) (backToKw pos (keywordEach [] X.env))) := by rfl) : MX X (.Call (.Attribute a mm apos) (e :: es) [] pos) (gMeth C FS n S ga gr) := by
  obtain ⟨t, a1, a2⟩ := ha.ex
  obtain ⟨u, b1, b2⟩ := hr2.ex
  refine ⟨_, pe_meth a1 cl hm F hr hb .nil pass0 b1 hst hpl ht, fun m h H ρ σ QV Q rh re hg k => a2 m h H ρ σ _ _ rh re hg fun m1 H1 h1 r x p q => ?_⟩
  obtain ⟨j, vs, rfl, hn, q⟩ := q
  obtain ⟨pa, rfl, ea⟩ := RelT.ref_inv p.rr
  obtain ⟨dx, ys, z1, z2, z3⟩ := p.rh.obj j _ pa hn ea
  refine ⟨pa, dx, ys, rfl, z1, no_field (C := C) (dx := dx) hmm z2, b2 m1 h1 H1 ρ σ _ _ p.rh (re.mono p.ev) q fun m2 H2 h2 as xs e2 r2 t2 q2 => ?_⟩
  exact ⟨m2, h2, .ref j :: as, QV, r2, by rw [List.append_nil]; exact .cons (RelT.ref (e2.pre _ _ ea)) t2, by rw [List.length_cons, q2.1, hl], q2.2, fun m3 H3 h3 r z p3 q3 => k m3 H3 h3 r z (p3.from_ (p.ev.trans e2) r2) q3⟩
theorem mmeth0 {pl : Sem Bool} {C f : Addr} {FS : List Str} {mm : Str} {apos : Pos} {k : Nat} {fd : FuncData} {ps : List Str} {S : GC} (cl : Cls X.K C) (hmm : mm ∉ FS) (hm : Meth X.K C mm f) (F : FnOk X.prog X.w X.K X.mg X.base CX0 k f fd ps (spOf X.K ps.length S)) (hr : Room k X.A) (hb : Binds X.K fd ps [])
    (ha : MX X a ga) (hl : ps.length = 0 + 1 := by rfl)
    (ht : eval (.Call (.Attribute a mm apos) [] [] pos) X.env = (do
      let ov ← eval a X.env
      standAt apos.atName
      let (f, first) ← holding [ov] (getMethod ov mm pl)
      callWith pos f first (backTo pos (starEach [] X.env)) (backToKw pos (keywordEach [] X.env))) := by rfl) : MX X (.Call (.Attribute a mm apos) [] [] pos) (gMeth C FS 0 S ga gNil) := by
  obtain ⟨t, a1, a2⟩ := ha.ex
  refine ⟨_, pe_meth0 a1 cl hm F hr hb .nil pass0 ht, fun m h H ρ σ QV Q rh re hg k => a2 m h H ρ σ _ _ rh re hg fun m1 H1 h1 r x p q => ?_⟩
  obtain ⟨j, vs, rfl, hn, q⟩ := q
  obtain ⟨pa, rfl, ea⟩ := RelT.ref_inv p.rr
  obtain ⟨dx, ys, z1, z2, z3⟩ := p.rh.obj j _ pa hn ea
  exact ⟨pa, dx, ys, rfl, z1, no_field (C := C) (dx := dx) hmm z2, m1, h1, [.ref j], QV, p.rh, .cons (RelT.ref ea) .nil, by rw [hl]; rfl, q.2, fun m3 H3 h3 r z p3 q3 => k m3 H3 h3 r z (p3.from_ p.ev p.rh) q3⟩
/-! ### C(..) -/
def kMake (C : Addr) (FS : List Str) (n : Nat) (S : GC) (Q : R → VH → Prop) (as : List VV) (h : VH) : Prop := as.length = n ∧ S (.ref h.length :: as) (h ++ [.ins C FS []]) fun r h2 => r = .val .non ∧ Q (.val (.ref h.length)) h2
def gMake (C : Addr) (FS : List Str) (n : Nat) (S : GC) (gr : GA) : GE := fun ρ h Q => gr ρ h fun as h1 => kMake C FS n S Q as h1
theorem make_ok {K : PySem.W.Frag} {m : List Addr} {H : Hp} {h : VH} {C : Addr} {FS : List Str} {n : Nat} {S : GC} {QV : R → VH → Prop} {Q : VK} {as : List VV} {xs : List V} (rh : RH K m h H) (r : Rels K m H as xs) (q : kMake C FS n S QV as h)
    (k : ∀ m' H' h' r x, Pst K m H m' H' h' r x → QV r h' → Q x H') {x dx : Addr} (hx : H x = none) (hdx : H dx = none) (ne : dx ≠ x) : spOf K (n + 1) S (.ref x :: xs) (upd (upd H dx (.own x)) x (.ins C dx [])) (fun v H2 => v = .non ∧ Q (.ref x) H2) (fun _ _ _ => False) := by
  have hx1 : upd H dx (.own x) x = none := by rw [upd_ne (Ne.symm ne)]; exact hx
  have e1 : Ev K m m H (upd H dx (.own x)) := Ev.laid hdx
  have e2 : Ev K m m (upd H dx (.own x)) (upd (upd H dx (.own x)) x (.ins C dx [])) := Ev.laid hx1
  have rh1 := rh.laid (o := .own x) hdx
  have p : Pst K m H m (upd (upd H dx (.own x)) x (.ins C dx [])) h (.new (.ins C FS [])) (.ref x) :=
    ⟨e1.trans e2, rh1.laid hx1, ⟨x, rfl, rh.fresh hx, dx, [], upd_same, rfl, .nil⟩, fun _ a _ z => by cases z; exact hx⟩
  refine put_ok (QV := fun v h2 => as.length = n ∧ S (v :: as) h2 fun r h3 => r = .val .non ∧ QV (.val v) h3) p q fun m2 h2 v ev r2 t2 pre q2 => ?_
  exact ⟨m2, h2, v :: as, _, r2, .cons t2 (r.mono ev), by rw [List.length_cons, q2.1], q2.2, fun m3 H3 h3 r z p3 q3 => by
    obtain ⟨rfl, q3⟩ := q3
    exact ⟨RelT.non_inv p3.rr, k m3 H3 h3 (.val v) (.ref x) ⟨ev.trans p3.ev, p3.rh, t2.mono p3.ev, fun _ _ z => nomatch z⟩ q3⟩⟩
theorem mmake {x : Str} {p : Pos} {C f : Addr} {FS : List Str} {n k : Nat} {fd : FuncData} {ps : List Str} {S : GC} {e : Expr} (M : Mk X.K C f) (F : FnOk X.prog X.w X.K X.mg X.base CX0 k f fd ps (spOf X.K ps.length S)) (hr : Room (k + 1) X.A) (hm : X.mg x = some (.ref C)) (hb : Binds X.K fd ps [])
    (ha : MA X (e :: es) gr) (hl : ps.length = n + 1 := by rfl) (hg : Gl X x := by rfl) (hd : (x == ("__debug__" : Str)) = false := by decide) (hs : starEach (e :: es) X.env = (false, eval e X.env) :: starEach es X.env := by rfl) (hs2 : (backTo pos (starEach es X.env)).any (·.1) = false := by rfl) :
    MX X (.Call (.Name x p) (e :: es) [] pos) (gMake C FS n S gr) := by
  obtain ⟨t, a1, a2⟩ := ha.ex
  refine ⟨_, pe_make M F hr hg hm hb .nil pass0 a1 hd hs hs2, fun m h H ρ σ QV Q rh re hg k => a2 m h H ρ σ _ _ rh re hg fun m1 H1 h1 vs xs e1 r1 t1 q => ?_⟩
  intro x dx hx hdx ne
  rw [hl, List.append_nil]
  exact make_ok r1 t1 q (fun m2 H2 h2 r z p q => k m2 H2 h2 r z (p.from_ e1 r1) q) hx hdx ne
theorem mmake0 {x : Str} {p : Pos} {C f : Addr} {FS : List Str} {k : Nat} {fd : FuncData} {ps : List Str} {S : GC} (M : Mk X.K C f) (F : FnOk X.prog X.w X.K X.mg X.base CX0 k f fd ps (spOf X.K ps.length S)) (hr : Room (k + 1) X.A) (hm : X.mg x = some (.ref C)) (hb : Binds X.K fd ps [])
    (hl : ps.length = 0 + 1 := by rfl) (hg : Gl X x := by rfl) (hd : (x == ("__debug__" : Str)) = false := by decide) : MX X (.Call (.Name x p) [] [] pos) (gMake C FS 0 S gNil) := by
  refine ⟨_, pe_make0 M F hr hg hm hb .nil pass0 hd, fun m h H ρ σ QV Q rh re hg k => ?_⟩
  intro x dx hx hdx ne
  rw [hl]
  exact make_ok rh .nil hg k hx hdx ne
end
section
variable {ρ : VL.Env} {h : VH} {Q : R → VH → Prop} {QA : List VV → VH → Prop} {ga gv : GE} {gr : GA} {N : VL.Env → VH → Prop} {rt : R → VH → Prop} {bk ct : VL.Env → VH → Prop} {ex : XV} {C : Addr} {FS : List Str} {i n : Nat} {S : GC} {g2 : GS}
theorem t_fld (q : ga ρ h fun r h1 => kFld C FS i Q r h1) : gFld C FS i ga ρ h Q := q
theorem t_kfld {k : Nat} {vs : List VV} {v : VV} (e1 : h[k]? = some (.ins C FS vs)) (e2 : vs[i]? = some v) (q : Q (.val v) h) : kFld C FS i Q (.val (.ref k)) h := ⟨k, vs, v, rfl, e1, e2, q⟩
theorem t_fs (q : gv ρ h fun r h1 => put r h1 fun v h2 => ga ρ h2 fun s h3 => kFS C FS i v N ρ s h3) : gFS C FS i gv ga ⟨N, rt, bk, ct, ex⟩ ρ h := q
theorem t_seqFS (q : gFS C FS i gv ga ⟨fun ρ' h' => g2 ⟨N, rt, bk, ct, ex⟩ ρ' h', rt, bk, ct, ex⟩ ρ h) : gSeq (gFS C FS i gv ga) g2 ⟨N, rt, bk, ct, ex⟩ ρ h := ⟨_, q, fun _ _ z => z⟩
theorem t_kfs {k : Nat} {vs : List VV} {v : VV} (e1 : h[k]? = some (.ins C FS vs)) (e2 : i ≤ vs.length) (e3 : vs.length < 900) (q : N ρ (h.set k (.ins C FS (setAt vs i v)))) : kFS C FS i v N ρ (.val (.ref k)) h := ⟨k, vs, rfl, e1, e2, e3, q⟩
theorem t_fa {g : Int → Int → Int} (q : ga ρ h fun s h1 => kFA C FS i g gv N ρ s h1) : gFA C FS i g ga gv ⟨N, rt, bk, ct, ex⟩ ρ h := q
theorem t_seqFA {g : Int → Int → Int} (q : gFA C FS i g ga gv ⟨fun ρ' h' => g2 ⟨N, rt, bk, ct, ex⟩ ρ' h', rt, bk, ct, ex⟩ ρ h) : gSeq (gFA C FS i g ga gv) g2 ⟨N, rt, bk, ct, ex⟩ ρ h := ⟨_, q, fun _ _ z => z⟩
theorem t_kfa {g : Int → Int → Int} {k : Nat} {vs : List VV} {z : Int} (e1 : h[k]? = some (.ins C FS vs)) (e2 : vs[i]? = some (.int z)) (e3 : vs.length < 900) {j : Int} (q : gv = gC (.int j)) (q2 : N ρ (h.set k (.ins C FS (vs.set i (.int (g z j)))))) : kFA C FS i g gv N ρ (.val (.ref k)) h :=
  ⟨k, vs, z, rfl, e1, e2, by rw [q]; exact ⟨j, vs, rfl, e1, (List.getElem?_eq_some_iff.mp e2).1, e3, q2⟩⟩
theorem t_meth (q : ga ρ h fun r h1 => kMeth C FS n S gr ρ Q r h1) : gMeth C FS n S ga gr ρ h Q := q
theorem t_kmeth {k : Nat} {vs : List VV} (e : h[k]? = some (.ins C FS vs)) (q : gr ρ h fun as h2 => as.length = n ∧ S (.ref k :: as) h2 Q) : kMeth C FS n S gr ρ Q (.val (.ref k)) h := ⟨k, vs, rfl, e, q⟩
theorem t_make (q : gr ρ h fun as h1 => kMake C FS n S Q as h1) : gMake C FS n S gr ρ h Q := q
end
end VL

set_option autoImplicit false
/-! VL36: x += v, xs[i] += v, d[k] += v; two places exchanged. -/
namespace VL
open PySem L2
section
variable {X : Cx} {a b c d e : Expr} {ga gb gc gd ge : GE} {pos : Pos}
/-- x += v, whole numbers -/
def kAug (i : Nat) (g : Int → Int → Int) (gv : GE) (N : VL.Env → VH → Prop) (ρ : VL.Env) (h : VH) : Prop := ∃ z, ρ[i]? = some (some (.int z)) ∧ gv ρ h fun r h1 => ∃ j, r = .val (.int j) ∧ N (ρ.set i (some (.int (g z j)))) h1
def gAug (i : Nat) (g : Int → Int → Int) (gv : GE) : GS := fun D ρ h => kAug i g gv D.nx ρ h
theorem msaug (i : Nat) {x : Str} {op : Operator} {g : Int → Int → Int} {p' : Pos} (hop : PIp X op (ipI g)) (hv : MX X c gc) (hN : X.N.Nodup) (hi : X.N[i]? = some x := by rfl) (hx : Loc X.env.scope x := by first | exact .inl rfl | exact .inr rfl) (hf : X.fn x = true ∨ X.env.scope.names.lookup x = some .local := by first | exact .inl rfl | exact .inr rfl) :
    MS X (.AugAssign (.Name x p') op c pos) (gAug i g gc) := by
  obtain ⟨w, c1, c2⟩ := hv.ex
  refine ⟨_, ps_aug hN hi hx c1 hop hf, fun m h H ρ σ D E rh re hg k => ?_⟩
  obtain ⟨z, ez, q⟩ := hg
  obtain ⟨y, ey, ry⟩ := re.at_ i _ ez
  cases ry.int_inv
  refine ⟨.int z, ey, c2 m h H ρ σ _ _ rh re q fun m1 H1 h1 r x p q => ?_⟩
  obtain ⟨j, rfl, q⟩ := q
  cases RelT.int_inv p.rr
  exact ⟨z, j, rfl, rfl, k.nx _ _ _ _ _ p.ev p.rh ((re.mono p.ev).set .int) q⟩
/-- xs[i] += v, whole numbers -/
def kAL (g : Int → Int → Int) (gv : GE) (N : VL.Env → VH → Prop) (ρ : VL.Env) (s t : R) (h : VH) : Prop := ∃ n i xs z j, s = .val (.ref n) ∧ t = .val (.int i) ∧ h[n]? = some (.lst xs) ∧ 0 ≤ i ∧ i.toNat = j ∧ xs[j]? = some (.int z) ∧
  gv ρ h fun r h2 => ∃ y ys, r = .val (.int y) ∧ h2[n]? = some (.lst ys) ∧ ixN ys.length i = some j ∧ N ρ (h2.set n (.lst (ys.set j (.int (g z y)))))
def gAL (g : Int → Int → Int) (ga gi gv : GE) : GS := fun D ρ h => ga ρ h fun s h1 => gi ρ h1 fun t h2 => kAL g gv D.nx ρ s t h2
def rGetL (K : PySem.W.Frag) : R2 := fun x y H Q => ∃ (p : Addr) (xs : List V) (i : Int) (v : V), x = .ref p ∧ y = .int i ∧ SqL K H p xs ∧ 0 ≤ i ∧ xs[i.toNat]? = some v ∧ Q v H
theorem get_list : PGet X (rGetL X.K) := fun pins s σ H o i ov iv Q I ro ri hw => by
  obtain ⟨p, xs, i, z, rfl, rfl, hq, h0, hz, q⟩ := hw
  cases ro
  obtain ⟨t, rfl⟩ := ri
  obtain ⟨its, r, pl, hl⟩ := I.list hq
  obtain ⟨w, ew, rz⟩ := r.get hz
  have hx := (List.getElem?_eq_some_iff.mp ew).1
  have len := r.length
  have hs := sizeLine_eq
  exact PySem.wpAny_getItem_list pl.isList h0 (by omega) (by simpa using ew) ⟨z, H, I, rz, q⟩
theorem msal {op : Operator} {g : Int → Int → Int} {tp : Pos} (hop : PIp X op (ipI g)) (ha : MX X a ga) (hb : MX X b gb) (hv : MX X c gc)
    (hau : ∀ ov iv new, augStore b ov iv new = (do holding [new, ov, iv] (setItem ov iv new); release [new, ov, iv] []; pure .next) := by intros; rfl) : MS X (.AugAssign (.Subscript a b tp) op c pos) (gAL g ga gb gc) := by
  obtain ⟨t, a1, a2⟩ := ha.ex
  obtain ⟨u, b1, b2⟩ := hb.ex
  obtain ⟨w, c1, c2⟩ := hv.ex
  refine ⟨_, ps_augS a1 b1 get_list c1 hop set_list hau, fun m h H ρ σ D E rh re hg k => a2 m h H ρ σ _ _ rh re hg fun m1 H1 h1 s y p1 q1 => b2 m1 h1 H1 ρ σ _ _ p1.rh (re.mono p1.ev) q1 fun m2 H2 h2 t iv p2 q2 => ?_⟩
  obtain ⟨n, i, xs, z, j, rfl, rfl, hn, h0, hj, hz, q⟩ := q2
  cases RelT.int_inv p2.rr
  obtain ⟨pa, ys, rfl, hm, hp, rr⟩ := kept_lst p2.rh hn (RelT.mono p2.ev p1.rr)
  obtain ⟨yz, hyz, ry⟩ := rr.get hz
  cases ry.int_inv
  refine ⟨pa, ys, i, .int z, rfl, rfl, .of hp, h0, by rw [hj]; exact hyz, ?_⟩
  refine c2 m2 h2 H2 ρ σ _ _ p2.rh ((re.mono p1.ev).mono p2.ev) q fun m3 H3 h3 r x p3 q3 => ?_
  obtain ⟨y, us, rfl, hn3, hj3, q⟩ := q3
  cases RelT.int_inv p3.rr
  obtain ⟨pb, ws, e1, hm3, hp3, rr3⟩ := kept_lst p3.rh hn3 (RelT.mono p3.ev (RelT.ref hm))
  cases e1
  obtain ⟨e5, r5⟩ := rh_setlst (us.set j (.int (g z y))) (ws.set j (.int (g z y))) p3.rh hn3 hm3 (rr3.set .int j)
  have e05 := ((p1.ev.trans p2.ev).trans p3.ev).trans e5
  exact ⟨z, y, rfl, rfl, pa, ws, i, j, rfl, rfl, hp3, by rw [← rr3.len]; exact hj3, k.nx _ _ _ ρ σ e05 r5 (re.mono e05) q⟩
/-- d[k] += v, whole numbers -/
def kAD (g : Int → Int → Int) (gv : GE) (N : VL.Env → VH → Prop) (ρ : VL.Env) (s t : R) (h : VH) : Prop := ∃ n u o z, s = .val (.ref n) ∧ t = .val u ∧ h[n]? = some o ∧ dGetO o u = some (some (.int z)) ∧
  gv ρ h fun r h2 => ∃ y o2 o3, r = .val (.int y) ∧ h2[n]? = some o2 ∧ dPutO o2 u (.int (g z y)) = some o3 ∧ sizeO o2 < sizeLine ∧ N ρ (h2.set n o3)
def gAD (g : Int → Int → Int) (ga gi gv : GE) : GS := fun D ρ h => ga ρ h fun s h1 => gi ρ h1 fun t h2 => kAD g gv D.nx ρ s t h2
theorem msad {op : Operator} {g : Int → Int → Int} {tp : Pos} (hu : X.A.units + 1 < cLine) (hop : InOp X op fun x y H Q => ∃ i j, x = .int i ∧ y = .int j ∧ Q (.int (g i j)) H) (ha : MX X a ga) (hb : MX X b gb) (hv : MX X c gc)
    (hau : ∀ ov iv new, augStore b ov iv new = (do holding [new, ov, iv] (setItem ov iv new); release [new, ov, iv] []; pure .next) := by intros; rfl) : MS X (.AugAssign (.Subscript a b tp) op c pos) (gAD g ga gb gc) := by
  obtain ⟨t, a1, a2⟩ := ha.ex
  obtain ⟨u, b1, b2⟩ := hb.ex
  obtain ⟨w, c1, c2⟩ := hv.ex
  refine ⟨_, ps_daug hu a1 b1 c1 hop hau, fun m h H ρ σ D E rh re hg k => a2 m h H ρ σ _ _ rh re hg fun m1 H1 h1 s y p1 q1 => b2 m1 h1 H1 ρ σ _ _ p1.rh (re.mono p1.ev) q1 fun m2 H2 h2 t iv p2 q2 => ?_⟩
  obtain ⟨n, uv, o, z, rfl, rfl, hn, hz, q⟩ := q2
  obtain ⟨pa, rfl, ea⟩ := RelT.ref_inv (RelT.mono p2.ev p1.rr)
  obtain ⟨r', g1, g2, _⟩ := dGet_ok (p2.rh.obj n o pa hn ea) p2.rr hz
  obtain ⟨zz, rfl, rz⟩ := g2 _ rfl
  cases rz.int_inv
  refine ⟨pa, .int z, rfl, g1, ?_⟩
  refine c2 m2 h2 H2 ρ σ _ _ p2.rh ((re.mono p1.ev).mono p2.ev) q fun m3 H3 h3 r x p3 q3 => ?_
  obtain ⟨y, o2, o3, rfl, hn3, ho, hl, q⟩ := q3
  cases RelT.int_inv p3.rr
  obtain ⟨w2, g3, e5, r5⟩ := dPut_ok (w := .int (g z y)) (z := .int (g z y)) p3.rh hn3 (p3.ev.pre _ _ ea) (RelT.mono p3.ev p2.rr) .int ho hl
  have e05 := ((p1.ev.trans p2.ev).trans p3.ev).trans e5
  exact ⟨z, y, rfl, rfl, _, g3, k.nx _ _ _ ρ σ e05 r5 (re.mono e05) q⟩
end
section
variable {ρ : VL.Env} {h : VH} {ga gv gi : GE} {N : VL.Env → VH → Prop} {rt : R → VH → Prop} {bk ct : VL.Env → VH → Prop} {ex : XV} {i : Nat} {g : Int → Int → Int} {g2 : GS}
theorem t_aug {z : Int} (e : ρ[i]? = some (some (.int z))) (q : gv ρ h fun r h1 => ∃ j, r = .val (.int j) ∧ N (ρ.set i (some (.int (g z j)))) h1) : gAug i g gv ⟨N, rt, bk, ct, ex⟩ ρ h := ⟨z, e, q⟩
theorem t_seqAug (q : gAug i g gv ⟨fun ρ' h' => g2 ⟨N, rt, bk, ct, ex⟩ ρ' h', rt, bk, ct, ex⟩ ρ h) : gSeq (gAug i g gv) g2 ⟨N, rt, bk, ct, ex⟩ ρ h := ⟨_, q, fun _ _ z => z⟩
theorem t_al (q : ga ρ h fun s h1 => gi ρ h1 fun t h2 => kAL g gv N ρ s t h2) : gAL g ga gi gv ⟨N, rt, bk, ct, ex⟩ ρ h := q
theorem t_seqAL (q : gAL g ga gi gv ⟨fun ρ' h' => g2 ⟨N, rt, bk, ct, ex⟩ ρ' h', rt, bk, ct, ex⟩ ρ h) : gSeq (gAL g ga gi gv) g2 ⟨N, rt, bk, ct, ex⟩ ρ h := ⟨_, q, fun _ _ z => z⟩
theorem t_ad (q : ga ρ h fun s h1 => gi ρ h1 fun t h2 => kAD g gv N ρ s t h2) : gAD g ga gi gv ⟨N, rt, bk, ct, ex⟩ ρ h := q
theorem t_seqAD (q : gAD g ga gi gv ⟨fun ρ' h' => g2 ⟨N, rt, bk, ct, ex⟩ ρ' h', rt, bk, ct, ex⟩ ρ h) : gSeq (gAD g ga gi gv) g2 ⟨N, rt, bk, ct, ex⟩ ρ h := ⟨_, q, fun _ _ z => z⟩
end
end VL

set_option autoImplicit false
/-! VL37: behind how many beats a cell has nothing left. -/
namespace VL
open PySem L2
theorem sumI_le {f g : Nat → Int} : ∀ {l : List Nat}, (∀ i ∈ l, f i ≤ g i) → (l.map f).sum ≤ (l.map g).sum
  | [], _ => Int.le_refl _
  | a :: l, h => by
    have h1 := h a (by simp)
    have h2 := sumI_le (l := l) fun i hi => h i (by simp [hi])
    simp only [List.map_cons, List.sum_cons]; omega
theorem sumI_lt {f g : Nat → Int} : ∀ {l : List Nat}, (∀ i ∈ l, f i ≤ g i) → (∃ i ∈ l, f i + 1 ≤ g i) → (l.map f).sum + 1 ≤ (l.map g).sum
  | [], _, ⟨i, hi, _⟩ => by cases hi
  | a :: l, h, ⟨i, hi, hl⟩ => by
    have h1 := h a (by simp)
    have h2 := sumI_le (l := l) fun i hi => h i (by simp [hi])
    simp only [List.map_cons, List.sum_cons]
    rcases List.mem_cons.mp hi with e | hi
    · subst e; omega
    · have := sumI_lt (l := l) (fun i hi => h i (by simp [hi])) ⟨i, hi, hl⟩
      omega
theorem sumI_one {f : Nat → Int} : ∀ {l : List Nat}, (∀ i ∈ l, 0 ≤ f i) → ∀ {i : Nat}, i ∈ l → f i ≤ (l.map f).sum
  | [], _, _, h => by cases h
  | a :: l, h, i, hi => by
    have h1 := h a (by simp)
    have h0 := sumI_le (l := l) (f := fun _ => 0) (g := f) fun i hi => h i (by simp [hi])
    have hz : (l.map fun _ => (0 : Int)).sum = 0 := by clear h h1 h0 hi; induction l with | nil => rfl | cons a l ih => simp only [List.map_cons, List.sum_cons, ih]; rfl
    simp only [List.map_cons, List.sum_cons]
    rcases List.mem_cons.mp hi with e | hi
    · subst e; omega
    · have := sumI_one (l := l) (fun i hi => h i (by simp [hi])) hi
      omega
theorem sumI_cap {f : Nat → Int} {m : Int} : ∀ {l : List Nat}, (∀ i ∈ l, f i ≤ m) → (l.map f).sum ≤ l.length * m
  | [], _ => by simp
  | a :: l, h => by
    have h1 := h a (by simp)
    have h2 := sumI_cap (l := l) fun i hi => h i (by simp [hi])
    simp only [List.map_cons, List.sum_cons, List.length_cons]
    have : ((l.length + 1 : Nat) : Int) * m = l.length * m + m := by rw [Int.natCast_add, Int.add_mul]; simp
    omega
def RS (n : Nat) (rows : List (List Int)) (i : Nat) : Int := ((List.range n).map fun j => aij rows i j).sum
def CS (n : Nat) (rows : List (List Int)) (j : Nat) : Int := ((List.range n).map fun i => aij rows i j).sum
def lat (n : Nat) (rows : List (List Int)) (i j : Nat) : Int := if aij rows i j = 0 then 0 else RS n rows i + CS n rows j - aij rows i j
section
variable {n : Nat} {m : Int} {rows rest : List (List Int)} {os : List (Option Int)} {ps : List (List (Option Int))}
theorem RS_eq (T : Tab n m rows) {i : Nat} (hi : i < n) : RS n rows i = (rows.getD i []).sum := by
  unfold RS
  rw [show (List.range n).map (fun j => aij rows i j) = rows.getD i [] from range_getD 0 (row_len_ T hi)]
theorem CS_eq (T : Tab n m rows) (j : Nat) : CS n rows j = (rows.map fun x => x.getD j 0).sum := by
  unfold CS
  rw [show (List.range n).map (fun i => aij rows i j) = rows.map fun x => x.getD j 0 by
    rw [← range_getD [] T.len, List.map_map, range_getD [] T.len]; rfl]
theorem RS_ge (T : Tab n m rows) {i j : Nat} (hi : i < n) (hj : j < n) : aij rows i j ≤ RS n rows i := sumI_one (f := fun j => aij rows i j) (fun k hk => (mem_getD2 T hi (List.mem_range.mp hk)).1) (List.mem_range.mpr hj)
theorem CS_ge (T : Tab n m rows) {i j : Nat} (hi : i < n) (hj : j < n) : aij rows i j ≤ CS n rows j := sumI_one (f := fun i => aij rows i j) (fun k hk => (mem_getD2 T (List.mem_range.mp hk) hj).1) (List.mem_range.mpr hi)
theorem RS_cap (T : Tab n m rows) {i : Nat} (hi : i < n) : RS n rows i ≤ n * m := by
  have := sumI_cap (l := List.range n) (f := fun j => aij rows i j) (m := m) fun k hk => (mem_getD2 T hi (List.mem_range.mp hk)).2
  rwa [List.length_range] at this
theorem CS_cap (T : Tab n m rows) {j : Nat} (hj : j < n) : CS n rows j ≤ n * m := by
  have := sumI_cap (l := List.range n) (f := fun i => aij rows i j) (m := m) fun k hk => (mem_getD2 T (List.mem_range.mp hk) hj).2
  rwa [List.length_range] at this
theorem lat_pos (T : Tab n m rows) {i j : Nat} (hi : i < n) (hj : j < n) (h : aij rows i j ≠ 0) : 1 ≤ lat n rows i j := by
  have a := RS_ge T hi hj
  have b := CS_ge T hi hj
  have c := (mem_getD2 T hi hj).1
  unfold lat
  rw [if_neg h]; omega
theorem lat_ne {i j : Nat} (h : 1 ≤ lat n rows i j) : aij rows i j ≠ 0 := fun e => by unfold lat at h; rw [if_pos e] at h; omega
theorem lat_nn (T : Tab n m rows) {i j : Nat} (hi : i < n) (hj : j < n) : 0 ≤ lat n rows i j := by
  by_cases h : aij rows i j = 0
  · unfold lat; rw [if_pos h]; omega
  · have := lat_pos T hi hj h; omega
theorem less_le {i j : Nat} (hi : i < n) (hj : j < n) : aij (lessP n rows os) i j ≤ aij rows i j := by rw [aij_less hi hj]; split <;> omega
theorem less_at {i j : Nat} (hi : i < n) (hj : j < n) (e : os.getD i none = some (j : Int)) : aij (lessP n rows os) i j + 1 ≤ aij rows i j := by rw [aij_less hi hj, if_pos e]; omega
theorem RS_less {i : Nat} (hi : i < n) : RS n (lessP n rows os) i ≤ RS n rows i := sumI_le fun j hj => less_le hi (List.mem_range.mp hj)
theorem CS_less {j : Nat} (hj : j < n) : CS n (lessP n rows os) j ≤ CS n rows j := sumI_le fun i hi => less_le (List.mem_range.mp hi) hj
theorem RS_lt {i j : Nat} (hi : i < n) (hj : j < n) (e : os.getD i none = some (j : Int)) : RS n (lessP n rows os) i + 1 ≤ RS n rows i := sumI_lt (fun j hj => less_le hi (List.mem_range.mp hj)) ⟨j, List.mem_range.mpr hj, less_at hi hj e⟩
theorem CS_lt {i j : Nat} (hi : i < n) (hj : j < n) (e : os.getD i none = some (j : Int)) : CS n (lessP n rows os) j + 1 ≤ CS n rows j := sumI_lt (fun i hi => less_le (List.mem_range.mp hi) hj) ⟨i, List.mem_range.mpr hi, less_at hi hj e⟩
theorem lat_step (T : Tab n m rows) (p : Pair n os) (w : WithinP n rows os) (f : FullP n rows os) {i j : Nat} (hi : i < n) (hj : j < n) (h : aij (lessP n rows os) i j ≠ 0) : lat n (lessP n rows os) i j + 1 ≤ lat n rows i j := by
  have h0 := (mem_getD2 (tab_less T w) hi hj).1
  have hl := less_le (rows := rows) (os := os) hi hj
  have hne : aij rows i j ≠ 0 := by omega
  have r := RS_less (rows := rows) (os := os) hi
  have c := CS_less (rows := rows) (os := os) hj
  unfold lat
  rw [if_neg h, if_neg hne]
  by_cases e : os.getD i none = some (j : Int)
  · have := RS_lt (rows := rows) hi hj e
    have := CS_lt (rows := rows) hi hj e
    have := aij_less (rows := rows) (os := os) hi hj
    rw [if_pos e] at this
    omega
  · have ea := aij_less (rows := rows) (os := os) hi hj
    rw [if_neg e] at ea
    rcases f i j hi hj hne with c1 | c1
    · obtain ⟨x, hx⟩ := Option.isSome_iff_exists.mp c1
      have hr := p.rng x (List.mem_of_getElem? (getD_some.mp hx))
      have := RS_lt (rows := rows) (j := x.toNat) hi (by omega) (by rw [hx]; congr 1; omega)
      omega
    · obtain ⟨a, ha⟩ := List.mem_iff_getElem?.mp c1
      have hai : a < n := by rw [← p.len]; exact (List.getElem?_eq_some_iff.mp ha).1
      have := CS_lt (rows := rows) hai hj (getD_some.mpr ha)
      omega
theorem Run.snoc (r : Run n rows ps rest) (p : Pair n os) (w : WithinP n rest os) (f : FullP n rest os) (c : cel os ≠ []) : Run n rows (ps ++ [os]) (lessP n rest os) := by
  induction r with
  | nil => exact .cons p w f c .nil
  | cons p' w' f' c' _ ih => exact .cons p' w' f' c' (ih w f)
theorem Run.lat (r : Run n rows ps rest) (T : Tab n m rows) {i j : Nat} (hi : i < n) (hj : j < n) (h : aij rest i j ≠ 0) : VL.lat n rest i j + ps.length ≤ VL.lat n rows i j := by
  induction r with
  | nil => simp
  | @cons rows rest os ps p w f c r' ih =>
    have T' := tab_less T w
    have h1 := ih T' h
    have h2 := lat_pos (r'.len T').2 hi hj h
    have h3 := lat_step T p w f hi hj (lat_ne (n := n) (by omega))
    rw [List.length_cons]; omega
theorem cel_at (p : Pair n os) (w : WithinP n rows os) (c : cel os ≠ []) : ∃ i j, i < n ∧ j < n ∧ aij rows i j ≠ 0 := by
  obtain ⟨⟨i, j⟩, hm⟩ := List.exists_mem_of_ne_nil _ c
  have hm := mem_cel.mp hm
  have hj := p.rng j (List.mem_of_getElem? hm)
  have hi : i < n := by rw [← p.len]; exact (List.getElem?_eq_some_iff.mp hm).1
  exact ⟨i, j.toNat, hi, by omega, w i j.toNat hi (by omega) (by rw [getD_some, hm]; congr 2; omega)⟩
theorem Run.short (r : Run n rows ps rest) (T : Tab n m rows) (h : ps ≠ []) : ∃ i j, i < n ∧ j < n ∧ (ps.length : Int) ≤ VL.lat n rows i j := by
  induction r with
  | nil => exact absurd rfl h
  | @cons rows rest os ps p w f c r' ih =>
    have T' := tab_less T w
    by_cases hp : ps = []
    · obtain ⟨i, j, hi, hj, e⟩ := cel_at p w c
      exact ⟨i, j, hi, hj, by rw [hp]; exact lat_pos T hi hj e⟩
    · obtain ⟨i, j, hi, hj, e⟩ := ih T' hp
      have hl := List.length_pos_iff.mpr hp
      have h3 := lat_step T p w f hi hj (lat_ne (n := n) (by omega))
      exact ⟨i, j, hi, hj, by rw [List.length_cons]; omega⟩
theorem lat_cap (T : Tab n m rows) {i j : Nat} (hi : i < n) (hj : j < n) (m0 : 0 ≤ m) (m6 : m ≤ 6) : VL.lat n rows i j ≤ 72 := by
  have a := RS_cap T hi
  have b := CS_cap T hj
  have c := (mem_getD2 T hi hj).1
  have : (n : Int) * m ≤ 6 * 6 := Int.mul_le_mul (by have := T.hi; omega) m6 m0 (by omega)
  unfold VL.lat
  split <;> omega
end
end VL

set_option autoImplicit false
/-! VL38: d.get(k, v), d.pop(k), del d[k], sorted(d). -/
namespace VL
open PySem L2
section
variable {κ : Type} [DecidableEq κ]
def dKs (ks : List κ) (k : κ) : List κ := ks.filter fun q => decide (q ≠ k)
def dVs : List κ → List VV → κ → List VV
  | q :: ks, v :: vs, k => if q = k then dVs ks vs k else v :: dVs ks vs k
  | _, _, _ => []
variable {K : PySem.W.Frag} {m : List Addr} {H : Hp}
theorem drop_fst {k : κ} {kvs : List (κ × V)} : (dropK kvs k).map Prod.fst = dKs (kvs.map Prod.fst) k := by
  unfold dropK dKs
  rw [List.filter_map]; rfl
theorem drop_snd {k : κ} : ∀ {kvs : List (κ × V)} {vs : List VV}, Rels K m H vs (kvs.map Prod.snd) → Rels K m H (dVs (kvs.map Prod.fst) vs k) ((dropK kvs k).map Prod.snd)
  | [], [], _ => .nil
  | [], _ :: _, r => by have := r.len; simp at this
  | _ :: _, [], r => by have := r.len; simp at this
  | p :: kvs, w :: vs, r => by
    obtain ⟨r1, r2⟩ := rels_cons r
    have ih := drop_snd (k := k) r2
    rw [List.map_cons, dVs]
    unfold dropK at ih ⊢
    by_cases c : p.1 = k
    · rw [if_pos c, List.filter_cons_of_neg (by simpa using c)]; exact ih
    · rw [if_neg c, List.filter_cons_of_pos (by simpa using c), List.map_cons]; exact .cons r1 ih
theorem isD_of {a : Addr} {o : VO} {v : VV} {r : Option VV} (ro : RelO K m H a o) (e : dGetO o v = some r) : IsD H a := by
  unfold dGetO at e
  split at e
  · obtain ⟨kvs, z1, _⟩ := ro; exact .inl ⟨kvs, .inl z1⟩
  · obtain ⟨kvs, z1, _⟩ := ro; exact .inr ⟨kvs, .inl z1⟩
  · exact .inr ⟨_, .inr ⟨_, ro.1⟩⟩
  · cases e
end
section
variable {X : Cx} {a b c d : Expr} {ga gb gc gd : GE} {pos : Pos}
/-- d.get(k, v) -/
def kDGet2 (gb gc : GE) (ρ : VL.Env) (Q : R → VH → Prop) (r : R) (h : VH) : Prop := ∃ n o v0 r0, r = .val (.ref n) ∧ h[n]? = some o ∧ dGetO o v0 = some r0 ∧
  gb ρ h fun s h2 => gc ρ h2 fun t h3 => ∃ v w o' f, s = .val v ∧ t = .val w ∧ h3[n]? = some o' ∧ dGetO o' v = some f ∧ Q (.val (f.getD w)) h3
def gDGet2 (ga gb gc : GE) : GE := fun ρ h Q => ga ρ h fun r h1 => kDGet2 gb gc ρ Q r h1
theorem mdget2 {apos : Pos} (hu : X.A.units + 1 < cLine) (ha : MX X a ga) (hb : MX X b gb) (hc : MX X c gc) (h1 : attributeBase a "get" X.env (eval a X.env) = eval a X.env := by rfl)
    (h2 : (((backTo pos (starEach [b, c] X.env)).all (fun x => !x.1) && (backToKw pos (keywordEach [] X.env)).all (fun x => x.1.isSome)) && decide (([b, c].length + ([] : List Keyword).length + if ([] : List Keyword).isEmpty = true then 0 else 1) < 30)) = true := by rfl)
    (h3 : (apos.endLine == pos.line) = true := by rfl) (hs : backTo pos (starEach [b, c] X.env) = [(false, eval b X.env), (false, eval c X.env)] := by rfl) : MX X (.Call (.Attribute a "get" apos) [b, c] [] pos) (gDGet2 ga gb gc) := by
  obtain ⟨t, a1, a2⟩ := ha.ex
  obtain ⟨u, b1, b2⟩ := hb.ex
  obtain ⟨w, c1, c2⟩ := hc.ex
  refine ⟨_, pe_dget2 hu a1 b1 c1 ⟨h1, h2, h3, hs⟩, fun m h H ρ σ QV Q rh re hg k => a2 m h H ρ σ _ _ rh re hg fun m1 H1 h1 r x p q => ?_⟩
  obtain ⟨n, o, v0, r0, rfl, hn, e0, q⟩ := q
  obtain ⟨pa, rfl, ea⟩ := RelT.ref_inv p.rr
  refine ⟨pa, rfl, isD_of (p.rh.obj n o pa hn ea) e0, b2 m1 h1 H1 ρ σ _ _ p.rh (re.mono p.ev) q fun m3 H3 h3 s y p3 q3 => c2 m3 h3 H3 ρ σ _ _ p3.rh ((re.mono p.ev).mono p3.ev) q3 fun m4 H4 h4 t z p4 q4 => ?_⟩
  obtain ⟨v, w, o', f, rfl, rfl, hn', e, q⟩ := q4
  have ea' := p4.ev.pre _ _ (p3.ev.pre _ _ ea)
  obtain ⟨r', g1, g2, g3⟩ := dGet_ok (p4.rh.obj n o' pa hn' ea') (RelR.mono p4.ev p3.rr) e
  have e04 := (p.ev.trans p3.ev).trans p4.ev
  cases f with
  | none =>
    rw [g3 rfl] at g1
    exact ⟨none, g1, k m4 H4 h4 (.val w) z ⟨e04, p4.rh, p4.rr, fun _ _ z => nomatch z⟩ q⟩
  | some f =>
    obtain ⟨y', rfl, ry⟩ := g2 f rfl
    exact ⟨some y', g1, k m4 H4 h4 (.val f) y' ⟨e04, p4.rh, ry, fun _ _ z => nomatch z⟩ q⟩
/-- d.pop(k) -/
def kDPop (gb : GE) (ρ : VL.Env) (Q : R → VH → Prop) (r : R) (h : VH) : Prop := ∃ n ks0 vs0, r = .val (.ref n) ∧ h[n]? = some (.dic ks0 vs0) ∧
  gb ρ h fun s h2 => ∃ v k ks vs w, s = .val v ∧ keyOf v = some k ∧ h2[n]? = some (.dic ks vs) ∧ vG ks vs k = some w ∧ Q (.val w) (h2.set n (.dic (dKs ks k) (dVs ks vs k)))
def gDPop (ga gb : GE) : GE := fun ρ h Q => ga ρ h fun r h1 => kDPop gb ρ Q r h1
theorem mdpop {apos : Pos} (ha : MX X a ga) (hb : MX X b gb) (h1 : attributeBase a "pop" X.env (eval a X.env) = eval a X.env := by rfl)
    (h2 : (((backTo pos (starEach [b] X.env)).all (fun x => !x.1) && (backToKw pos (keywordEach [] X.env)).all (fun x => x.1.isSome)) && decide (([b].length + ([] : List Keyword).length + if ([] : List Keyword).isEmpty = true then 0 else 1) < 30)) = true := by rfl)
    (h3 : (apos.endLine == pos.line) = true := by rfl) (hs : backTo pos (starEach [b] X.env) = [(false, eval b X.env)] := by rfl) : MX X (.Call (.Attribute a "pop" apos) [b] [] pos) (gDPop ga gb) := by
  obtain ⟨t, a1, a2⟩ := ha.ex
  obtain ⟨u, b1, b2⟩ := hb.ex
  refine ⟨_, pe_dpop1 a1 b1 ⟨h1, h2, h3, hs⟩, fun m h H ρ σ QV Q rh re hg k => a2 m h H ρ σ _ _ rh re hg fun m1 H1 h1 r x p q => ?_⟩
  obtain ⟨n, ks0, vs0, rfl, hn, q⟩ := q
  obtain ⟨pa, rfl, ea⟩ := RelT.ref_inv p.rr
  obtain ⟨kv0, z0, _⟩ := p.rh.obj n _ pa hn ea
  refine ⟨pa, rfl, .inl ⟨kv0, .inl z0⟩, b2 m1 h1 H1 ρ σ _ _ p.rh (re.mono p.ev) q fun m3 H3 h3 s y p3 q3 => ?_⟩
  obtain ⟨v, kk, ks, vs, w, rfl, hk, hn', hw, q⟩ := q3
  have ea' := p3.ev.pre _ _ ea
  obtain ⟨kvs, z1, rfl, z3⟩ := p3.rh.obj n _ pa hn' ea'
  obtain ⟨y', hy', ry⟩ := (vG_ok (k := kk) z3).1 w hw
  have ey := keyOf_ok p3.rr hk
  obtain ⟨e1, e2⟩ := rh_write (ov := .dic (dKs (kvs.map Prod.fst) kk) (dVs (kvs.map Prod.fst) vs kk)) p3.rh hn' ea' (u := .dK (dropK kvs kk)) fun ev => ⟨_, upd_same, drop_fst, drop_snd (z3.mono ev)⟩
  exact ⟨kvs, kk, y', z1, ey, hy', k m3 _ _ (.val w) y' ⟨(p.ev.trans p3.ev).trans e1, e2, ry.mono e1, fun _ _ z => nomatch z⟩ q⟩
/-- del d[k] -/
def kDDel (N : VL.Env → VH → Prop) (ρ : VL.Env) (r s : R) (h : VH) : Prop := ∃ n v k ks vs w, r = .val (.ref n) ∧ s = .val v ∧ keyOf v = some k ∧ h[n]? = some (.dic ks vs) ∧ vG ks vs k = some w ∧ N ρ (h.set n (.dic (dKs ks k) (dVs ks vs k)))
def gDDel (ga gb : GE) : GS := fun D ρ h => ga ρ h fun r h1 => gb ρ h1 fun s h2 => kDDel D.nx ρ r s h2
theorem msddel {tpos : Pos} (ha : MX X a ga) (hb : MX X b gb) : MS X (.Delete [.Subscript a b tpos] pos) (gDDel ga gb) := by
  obtain ⟨t, a1, a2⟩ := ha.ex
  obtain ⟨u, b1, b2⟩ := hb.ex
  refine ⟨_, ps_ddel a1 b1, fun m h H ρ σ D E rh re hg k => a2 m h H ρ σ _ _ rh re hg fun m1 H1 h1 r x p q => b2 m1 h1 H1 ρ σ _ _ p.rh (re.mono p.ev) q fun m3 H3 h3 s y p3 q3 => ?_⟩
  obtain ⟨n, v, kk, ks, vs, w, rfl, rfl, hk, hn, hw, q⟩ := q3
  obtain ⟨pa, rfl, ea⟩ := RelT.ref_inv (RelR.mono p3.ev p.rr)
  obtain ⟨kvs, z1, rfl, z3⟩ := p3.rh.obj n _ pa hn ea
  obtain ⟨y', hy', ry⟩ := (vG_ok (k := kk) z3).1 w hw
  obtain ⟨e1, e2⟩ := rh_write (ov := .dic (dKs (kvs.map Prod.fst) kk) (dVs (kvs.map Prod.fst) vs kk)) p3.rh hn ea (u := .dK (dropK kvs kk)) fun ev => ⟨_, upd_same, drop_fst, drop_snd (z3.mono ev)⟩
  have e04 := (p.ev.trans p3.ev).trans e1
  exact ⟨pa, kvs, kk, rfl, z1, keyOf_ok p3.rr hk, by rw [hy']; rfl, k.nx m3 _ _ ρ σ e04 e2 (re.mono e04) q⟩
theorem rels_ints {K : PySem.W.Frag} {m : List Addr} {H : Hp} : ∀ ns : List Int, Rels K m H (ns.map VV.int) (ns.map V.int)
  | [] => .nil
  | _ :: ns => .cons .int (rels_ints ns)
/-- sorted(d), d of whole numbers -/
def guSortDI : GU := fun x h Q => ∃ n js vs, x = .val (.ref n) ∧ h[n]? = some (.dic (js.map Sum.inl) vs) ∧ js.length < 64 ∧ ∀ qs : List Int, qs.Perm js → qs.Pairwise (fun x y => x ≤ y) → Q (.new (.lst (qs.map .int))) h
theorem mc_sortDI (hc : X.calm = true := by rfl) : MC1 X (.builtin "sorted") guSortDI := by
  refine ⟨_, call_sortedDI hc, fun m h H x rx QV Q rh r1 q k => ?_⟩
  obtain ⟨n, js, vs, rfl, hn, hl, q⟩ := q
  obtain ⟨pa, rfl, ea⟩ := RelT.ref_inv r1
  obtain ⟨kvs, z1, z2, z3⟩ := rh.obj n _ pa hn ea
  refine ⟨pa, kvs, js, rfl, .inl z1, z2, hl, fun ys p hp hs hH => ?_⟩
  exact k m _ h _ _ (.lst rh hH (rels_ints ys)) (q ys hp hs)
end
section
variable {ρ : VL.Env} {h : VH} {Q : R → VH → Prop} {ga gb gc : GE} {N : VL.Env → VH → Prop} {rt : R → VH → Prop} {bk ct : VL.Env → VH → Prop} {ex : XV} {g2 : GS}
theorem t_dget2 (q : ga ρ h fun r h1 => kDGet2 gb gc ρ Q r h1) : gDGet2 ga gb gc ρ h Q := q
theorem t_kdget2 {n : Nat} {o : VO} {v0 : VV} {r0 : Option VV} (e1 : h[n]? = some o) (e2 : dGetO o v0 = some r0) (q : gb ρ h fun s h2 => gc ρ h2 fun t h3 => ∃ v w o' f, s = .val v ∧ t = .val w ∧ h3[n]? = some o' ∧ dGetO o' v = some f ∧ Q (.val (f.getD w)) h3) : kDGet2 gb gc ρ Q (.val (.ref n)) h := ⟨n, o, v0, r0, rfl, e1, e2, q⟩
theorem t_dpop (q : ga ρ h fun r h1 => kDPop gb ρ Q r h1) : gDPop ga gb ρ h Q := q
theorem t_kdpop {n : Nat} {ks : List Key} {vs : List VV} (e1 : h[n]? = some (.dic ks vs)) (q : gb ρ h fun s h2 => ∃ v k ks vs w, s = .val v ∧ keyOf v = some k ∧ h2[n]? = some (.dic ks vs) ∧ vG ks vs k = some w ∧ Q (.val w) (h2.set n (.dic (dKs ks k) (dVs ks vs k)))) : kDPop gb ρ Q (.val (.ref n)) h := ⟨n, ks, vs, rfl, e1, q⟩
theorem t_ddel (q : ga ρ h fun r h1 => gb ρ h1 fun s h2 => kDDel N ρ r s h2) : gDDel ga gb ⟨N, rt, bk, ct, ex⟩ ρ h := q
theorem t_seqDDel (q : gDDel ga gb ⟨fun ρ' h' => g2 ⟨N, rt, bk, ct, ex⟩ ρ' h', rt, bk, ct, ex⟩ ρ h) : gSeq (gDDel ga gb) g2 ⟨N, rt, bk, ct, ex⟩ ρ h := ⟨_, q, fun _ _ z => z⟩
theorem t_kddel {n : Nat} {v w : VV} {k : Key} {ks : List Key} {vs : List VV} (e1 : h[n]? = some (.dic ks vs)) (e2 : keyOf v = some k) (e3 : vG ks vs k = some w) (q : N ρ (h.set n (.dic (dKs ks k) (dVs ks vs k)))) : kDDel N ρ (.val (.ref n)) (.val v) h := ⟨n, v, k, ks, vs, w, rfl, rfl, e2, e1, e3, q⟩
theorem t_sortDI {n : Nat} {js : List Int} {vs : List VV} (e : h[n]? = some (.dic (js.map Sum.inl) vs)) (l : js.length < 64) (q : ∀ qs : List Int, qs.Perm js → qs.Pairwise (fun x y => x ≤ y) → Q (.new (.lst (qs.map .int))) h) : guSortDI (.val (.ref n)) h Q := ⟨n, js, vs, rfl, e, l, q⟩
end
end VL

set_option autoImplicit false
/-! VL39: {'a': x, 'b': y}. -/
namespace VL
open PySem L2
section
variable {X : Cx} {v : Expr} {gv : GE} {pos : Pos} {keys : List (Option Expr)} {vals : List Expr} {ks : List Str} {gr : GA}
def RzPs (K : PySem.W.Frag) (ks : List Str) (trs : List (TE × TE)) (g : GA) : Prop := ∀ (m : List Addr) (h : VH) (H : Hp) (ρ : VL.Env) (σ : St) (QV : List VV → VH → Prop) (Q : List (V × V) → Hp → Prop), RH K m h H → RE K m H ρ σ → g ρ h QV →
  (∀ m' H' h' vs xs, Ev K m m' H H' → RH K m' h' H' → Rels K m' H' vs xs → vs.length = ks.length → QV vs h' → Q ((ks.map V.str).zip xs) H') → tPairs trs σ H Q
structure MPs (X : Cx) (pos : Pos) (keys : List (Option Expr)) (vals : List Expr) (ks : List Str) (g : GA) : Prop where
  ex : ∃ trs, PPs X pos keys vals trs ∧ RzPs X.K ks trs g
theorem mpsnil : MPs X pos [] [] [] gNil := ⟨_, pps_nil, fun m h H ρ σ QV Q rh re hg k => k m H h [] [] Ev.refl rh .nil rfl hg⟩
theorem mpscons {s : Str} {j : Nat} {p : Pos} (hv : MX X v gv) (hr : MPs X pos keys vals ks gr) : MPs X pos (some (.Constant (.str s) j p) :: keys) (v :: vals) (s :: ks) (gCons gv gr) := by
  obtain ⟨ta, a1, a2⟩ := hv.ex
  obtain ⟨tr, b1, b2⟩ := hr.ex
  refine ⟨_, pps_cons pe_str a1 b1, fun m h H ρ σ QV Q rh re hg k => a2 m h H ρ σ _ _ rh re hg fun m1 H1 h1 r x p q => ?_⟩
  refine put_ok p q fun m2 h2 v e2 r2 t2 pre q2 => ?_
  refine b2 m2 h2 H1 ρ σ _ _ r2 (re.mono e2) q2 fun m3 H3 h3 vs xs e3 r3 t3 hl q3 => ?_
  exact k m3 H3 h3 (v :: vs) (x :: xs) (e2.trans e3) r3 (.cons (t2.mono e3) t3) (by rw [List.length_cons, List.length_cons, hl]) q3
theorem valV_none {κ : Type} [DecidableEq κ] {k : κ} {kvs : List (κ × V)} (h : k ∉ kvs.map Prod.fst) : valV kvs k = none := by
  unfold valV
  rw [Option.map_eq_none_iff, List.find?_eq_none]
  intro p hp
  simp only [decide_eq_true_eq]
  exact fun e => h (List.mem_map.mpr ⟨p, hp, e⟩)
theorem merge_nd : ∀ {more acc : List (Key × V)}, ((acc ++ more).map Prod.fst).Nodup → mergeK acc more = acc ++ more
  | [], acc, _ => by simp [mergeK]
  | p :: more, acc, h => by
    have hn : p.1 ∉ acc.map Prod.fst := fun z => by
      rw [List.map_append, List.nodup_append] at h
      exact h.2.2 _ z _ (by simp) rfl
    have e : putK acc p.1 p.2 = acc ++ [p] := putK_new _ (valV_none hn)
    have ih := merge_nd (more := more) (acc := acc ++ [p]) (by rw [List.append_assoc]; exact h)
    unfold mergeK at ih ⊢
    rw [List.foldl_cons, e, ih, List.append_assoc]; rfl
def gDisp (ks : List Str) (gr : GA) : GE := fun ρ h Q => put (.new (.dic [] [])) h fun v h1 => gr ρ h1 fun vs h2 => ∃ n, v = .ref n ∧ h2[n]? = some (.dic [] []) ∧ Q (.val v) (h2.set n (.dic (ks.map Sum.inr) vs))
theorem mdisp (hp : MPs X pos keys vals ks gr) (nd : ks.Nodup) (hk : (keys.all fun x => x.isSome) = true := by rfl) (hl : keys.length = vals.length := by rfl) (ne : keys ≠ [] := by exact fun z => nomatch z) (h15 : keys.length ≤ 15 := by decide) (k15 : ks.length ≤ 15 := by decide) : MX X (.Dict keys vals pos) (gDisp ks gr) := by
  obtain ⟨trs, a1, a2⟩ := hp.ex
  refine ⟨_, pe_disp a1 hk hl ne h15, fun m h H ρ σ QV Q rh re hg k p hp0 => ?_⟩
  have ps : Pst X.K m H m (upd H p (.dK [])) h (.new (.dic [] [])) (.ref p) := ⟨Ev.laid hp0, rh.laid hp0, ⟨p, rfl, rh.fresh hp0, [], upd_same, rfl, .nil⟩, fun _ a _ z => by cases z; exact hp0⟩
  refine put_ok ps hg fun m2 h2 v e2 r2 t2 pre q2 => ?_
  refine a2 m2 h2 _ ρ σ _ _ r2 (re.mono e2) q2 fun m3 H3 h3 vs xs e3 r3 t3 hvl q3 => ?_
  obtain ⟨n, rfl, hn, q⟩ := q3
  obtain ⟨pa, ep, ea⟩ := RelT.ref_inv (t2.mono e3)
  cases ep
  obtain ⟨kv0, z1, z2, z3⟩ := r3.obj n _ p hn ea
  have : kv0 = [] := by cases kv0 with
    | nil => rfl
    | cons a b => simp at z2
  subst this
  have lx : (ks.map (Sum.inr : Str → Key)).length = xs.length := by rw [List.length_map, ← hvl, t3.len]
  have kf : (((ks.map (Sum.inr : Str → Key)).zip xs).map Prod.fst) = ks.map Sum.inr := by rw [List.map_fst_zip (by omega)]
  have kz : (((ks.map (Sum.inr : Str → Key)).zip xs).map Prod.snd) = xs := by rw [List.map_snd_zip (by omega)]
  have mg : mergeK [] ((ks.map (Sum.inr : Str → Key)).zip xs) = (ks.map (Sum.inr : Str → Key)).zip xs := by
    rw [merge_nd]
    · rfl
    · rw [List.nil_append, kf]
      exact List.Pairwise.map _ (fun a b h z => h (Sum.inr.inj z)) nd
  obtain ⟨e5, r5⟩ := rh_write (ov := .dic (ks.map Sum.inr) vs) r3 hn ea (u := .dK ((ks.map (Sum.inr : Str → Key)).zip xs)) fun ev => ⟨_, upd_same, kf, by rw [kz]; exact t3.mono ev⟩
  refine ⟨z1, (ks.map Sum.inr).zip xs, ?_, ?_, ?_⟩
  · rw [List.zip_map_left, List.zip_map_left, List.map_map]
    exact List.map_congr_left fun p _ => rfl
  · rw [List.length_zip, List.length_map]; omega
  · rw [mg]
    exact k m3 _ _ (.val (.ref n)) (.ref p) ⟨(e2.trans e3).trans e5, r5, .ref ea, fun _ _ z => nomatch z⟩ q
end
section
variable {ρ : VL.Env} {h : VH} {Q : R → VH → Prop} {ks : List Str} {gr : GA}
theorem t_disp (q : gr ρ (h ++ [.dic [] []]) fun vs h2 => ∃ n, VV.ref h.length = .ref n ∧ h2[n]? = some (.dic [] []) ∧ Q (.val (.ref h.length)) (h2.set n (.dic (ks.map Sum.inr) vs))) : gDisp ks gr ρ h Q := q
theorem t_kdisp {n : Nat} {vs : List VV} {h2 : VH} {Q : R → VH → Prop} (e : h2[n]? = some (.dic [] [])) (q : Q (.val (.ref n)) (h2.set n (.dic (ks.map Sum.inr) vs))) : ∃ j, VV.ref n = .ref j ∧ h2[j]? = some (.dic [] []) ∧ Q (.val (.ref n)) (h2.set j (.dic (ks.map Sum.inr) vs)) := ⟨n, rfl, e, q⟩
end
end VL

set_option autoImplicit false
/-! VL40: del d[k], d a dict whose keys are tuples. -/
namespace VL
open PySem L2 PyProof.Rows
section
theorem kt_drop {H : Hp} {k : List Key} : ∀ {kvs : List (List Key × V)} {xs : List (List Key × Addr × Value)}, KT H kvs xs → KT H (dropK kvs k) (withoutH xs k) := fun {kvs xs} r => by
  induction r with
  | nil => exact .nil
  | @cons p q ps qs c _ ih =>
    unfold dropK withoutH at ih ⊢
    by_cases e : p.1 = k
    · rw [List.filter_cons_of_neg (by simpa using e), List.filter_cons_of_neg (by rw [← c.1]; simpa using e)]; exact ih
    · rw [List.filter_cons_of_pos (by simpa using e), List.filter_cons_of_pos (by rw [← c.1]; simpa using e)]; exact .cons c ih
variable {X : Cx} {o i : Expr} {pos tpos : Pos} {td ty : TE}
def sDelT (td ty : TE) : TS := fun D σ H => td σ H fun x H1 => ty σ H1 fun y H2 => ∃ a b kvs k v, x = .ref a ∧ y = .ref b ∧ H2 a = some (.dT kvs) ∧ H2 b = some (.tup (k.map kV)) ∧ valV kvs k = some v ∧ D.nx σ (upd H2 a (.dT (dropK kvs k)))
theorem ps_delT (hu : X.A.units + 1 < cLine) (ho : PE X o td) (hi : PE X i ty) : PS X (.Delete [.Subscript o i tpos] pos) (sDelT td ty) := by
  constructor
  intro pins s σ H D I hw
  apply wpAny_Delete
  apply wpAny_deleteEach_cons
  apply wpAny_delete_Subscript
  refine thn (ho.run pins s σ H _ I hw) fun u s1 ⟨x, H1, I1, rx, q1⟩ => thn (hi.run pins s1 σ H1 _ I1 q1) fun w s2 ⟨y, H2, I2, ry, q⟩ => ?_
  obtain ⟨a, b, kvs, k, v, rfl, rfl, e, eb, hv, q⟩ := q
  obtain rfl : u = Value.ref a := rx
  obtain rfl : w = Value.ref b := ry
  obtain ⟨z, hd, xs, rel, dd⟩ := dt_of I2.hok e
  obtain ⟨p, hp⟩ : ∃ p, atKey xs k = some p := by
    have := rel.val k
    rw [hv] at this
    cases c : atKey xs k with
    | some p => exact ⟨p, rfl⟩
    | none => rw [c] at this; exact False.elim this
  refine wpAny_delItem_heap (hsz := by rw [← Paired.length rel]; exact z) (tupleKind_room_in1 hu) (key_of I2.hok eb) hd dd hp fun h' dd' hs => wpAny_deleteEach_nil ⟨σ, _, ?_, q⟩
  obtain ⟨ob, es, ep, g1, g2, g3, g4, _, g5⟩ := dd'
  refine d_write I2 (by rw [e]; trivial) hs ⟨ob, g1⟩ ⟨Nat.le_trans (dropK_le kvs k) z, hd, _, KT.keeps (kt_drop rel) fun c ys ec => ?_, ob, es, ep, g1, g2, g3, g4, g5⟩
  have : c ≠ a := fun z => by rw [z, e] at ec; cases ec
  rw [upd_ne this]; exact ec
end
section
variable {X : Cx} {a b : Expr} {ga gb : GE} {pos : Pos}
def kDDelT (N : VL.Env → VH → Prop) (ρ : VL.Env) (r s : R) (h : VH) : Prop := ∃ n v k ks vs w, r = .val (.ref n) ∧ s = .val v ∧ keyT v = some k ∧ h[n]? = some (.dtu ks vs) ∧ vG ks vs k = some w ∧ N ρ (h.set n (.dtu (dKs ks k) (dVs ks vs k)))
def gDDelT (ga gb : GE) : GS := fun D ρ h => ga ρ h fun r h1 => gb ρ h1 fun s h2 => kDDelT D.nx ρ r s h2
theorem msddelT {tpos : Pos} (hu : X.A.units + 1 < cLine) (ha : MX X a ga) (hb : MX X b gb) : MS X (.Delete [.Subscript a b tpos] pos) (gDDelT ga gb) := by
  obtain ⟨t, a1, a2⟩ := ha.ex
  obtain ⟨u, b1, b2⟩ := hb.ex
  refine ⟨_, ps_delT hu a1 b1, fun m h H ρ σ D E rh re hg k => a2 m h H ρ σ _ _ rh re hg fun m1 H1 h1 r x p q => b2 m1 h1 H1 ρ σ _ _ p.rh (re.mono p.ev) q fun m3 H3 h3 s y p3 q3 => ?_⟩
  obtain ⟨n, v, kk, ks, vs, w, rfl, rfl, hk, hn, hw, q⟩ := q3
  obtain ⟨pa, rfl, ea⟩ := RelT.ref_inv (RelR.mono p3.ev p.rr)
  obtain ⟨kvs, z1, rfl, z3⟩ := p3.rh.obj n _ pa hn ea
  obtain ⟨y', hy', ry⟩ := (vG_ok (k := kk) z3).1 w hw
  obtain ⟨pb, rfl, hb⟩ := keyT_ok p3.rr hk
  obtain ⟨e1, e2⟩ := rh_write (ov := .dtu (dKs (kvs.map Prod.fst) kk) (dVs (kvs.map Prod.fst) vs kk)) p3.rh hn ea (u := .dT (dropK kvs kk)) fun ev => ⟨_, upd_same, drop_fst, drop_snd (z3.mono ev)⟩
  have e04 := (p.ev.trans p3.ev).trans e1
  exact ⟨pa, pb, kvs, kk, y', rfl, rfl, z1, hb, hy', k.nx m3 _ _ ρ σ e04 e2 (re.mono e04) q⟩
end
section
variable {ρ : VL.Env} {h : VH} {ga gb : GE} {N : VL.Env → VH → Prop} {rt : R → VH → Prop} {bk ct : VL.Env → VH → Prop} {ex : XV} {g2 : GS}
theorem t_ddelT (q : ga ρ h fun r h1 => gb ρ h1 fun s h2 => kDDelT N ρ r s h2) : gDDelT ga gb ⟨N, rt, bk, ct, ex⟩ ρ h := q
theorem t_seqDDelT (q : gDDelT ga gb ⟨fun ρ' h' => g2 ⟨N, rt, bk, ct, ex⟩ ρ' h', rt, bk, ct, ex⟩ ρ h) : gSeq (gDDelT ga gb) g2 ⟨N, rt, bk, ct, ex⟩ ρ h := ⟨_, q, fun _ _ z => z⟩
theorem t_kddelT {n : Nat} {v w : VV} {k : List Key} {ks : List (List Key)} {vs : List VV} (e1 : h[n]? = some (.dtu ks vs)) (e2 : keyT v = some k) (e3 : vG ks vs k = some w) (q : N ρ (h.set n (.dtu (dKs ks k) (dVs ks vs k)))) : kDDelT N ρ (.val (.ref n)) (.val v) h := ⟨n, v, k, ks, vs, w, rfl, rfl, e2, e1, e3, q⟩
end
end VL

set_option autoImplicit false
/-! VL41: len(set(ps)), ps a list of pairs. -/
namespace VL
open PySem L2 PySem.Spec PyProof.Rows
def adr : V → Addr
  | .ref t => t
  | _ => 0
def prL (H : Hp) (y : V) : Addr × List Int := (adr y, [(pairAt H y).1, (pairAt H y).2])
section
variable {X : Cx} {a : Expr} {ga : GE}
/-- how many unlike pairs there are -/
def Unl (ps : List (Int × Int)) (c : Nat) : Prop := ∃ D : List (Int × Int), D.Nodup ∧ (∀ p, p ∈ D ↔ p ∈ ps) ∧ D.length = c
def gLenSetP (ga : GE) : GE := fun ρ h Q => ga ρ h fun r h1 => ∃ ps : List (Int × Int), lstOf h1 r = some (ps.map pv) ∧ ps.length < 64 ∧ ∀ c : Nat, Unl ps c → Q (.val (.int c)) h1
theorem mlensetP {p p2 q pos : Pos} (hu : X.A.units + 65 < cLine) (hm : X.mg "len" = none) (hm2 : X.mg "set" = none) (ha : MX X a ga) (hg : Gl X "len" := by rfl) (hg2 : Gl X "set" := by rfl) (hc : X.calm = true := by rfl)
    (na : starEach [a] X.env = (false, eval a X.env) :: starEach [] X.env := by rfl) : MX X (.Call (.Name "len" p) [.Call (.Name "set" p2) [a] [] q] [] pos) (gLenSetP ga) := by
  obtain ⟨t, a1, a2⟩ := ha.ex
  refine ⟨fun σ H Q => t σ H fun x H1 => ∃ (l : Addr) (ys : List V), x = .ref l ∧ SqL X.K H1 l ys ∧ (∀ y ∈ ys, ∃ b, y = .ref b ∧ H1 b = some (.tup [.int (pairAt H1 y).1, .int (pairAt H1 y).2])) ∧ ys.length < 64 ∧ ∀ c : Nat, Unl (ys.map (pairAt H1)) c → Q (.int c) H1, ⟨fun pins s σ H Q I hw => ?_⟩, fun m h H ρ σ QV Q rh re hg k => a2 m h H ρ σ _ _ rh re hg fun m1 H1 h1 r x p q => ?_⟩
  · refine Call_ (ld_blt I hg hm boot_len (callWith_builtin1 (args_cons ?_ rfl) rfl rfl))
    refine Call_ (ld_blt I hg2 hm2 boot_set (callWith_type1 (args_cons (thn (a1.run pins s σ H _ I hw) fun v s1 ⟨x, H1, I1, r1, q1⟩ => args_nil ?_) na) na rfl))
    obtain ⟨l, ys, rfl, hq, hy, hl, q1⟩ := q1
    cases r1
    obtain ⟨its, rv, pl, _⟩ := I1.list hq
    have ey : (ys.map (prL H1)).map (fun p => V.ref p.1) = ys := by
      rw [List.map_map]
      refine (List.map_congr_left (g := id) fun y hm => ?_).trans (List.map_id _)
      obtain ⟨b, rfl, _⟩ := hy y hm
      rfl
    refine call_set_tups (ys.map (prL H1)) (I1.ok.hd hc) pl.isList (by rw [show its.toArray.toList = its from rfl]; exact refs_of_vals (by rw [ey]; exact rv)) (fun p hp => ?_) (by rw [List.length_map]; exact hl) (by show X.A.units + 3 < cLine; omega) fun h' tk L es ep tb R g hk => args_nil ?_
    · obtain ⟨y, hm, rfl⟩ := List.mem_map.mp hp
      obtain ⟨b, rfl, hb⟩ := hy y hm
      exact I1.isT (.of hb)
    · obtain ⟨o, ho, hex, hd⟩ := R.ob
      have hsz := SetTR.size (s := { s1 with heap := h' }) R
      have inK : ∀ p ∈ L, ∃ y ∈ ys, prL H1 y = p := fun p hp => List.mem_map.mp (List.mem_of_mem_take (g.sub p hp))
      have few := R.few
      refine call_len_set ho hex hd (SetTR.fits (s := { s1 with heap := h' }) R) (by rw [hsz]; omega) ⟨.int (L.length : Nat), H1, (I1.kept hk).tok _, ⟨_, by rw [hsz]⟩, q1 _ ⟨L.map fun p => (p.2.getD 0 0, p.2.getD 1 0), ?_, fun p => ?_, by rw [List.length_map]⟩⟩
      · have nd := List.pairwise_map.mp R.nd
        refine List.pairwise_map.mpr (nd.imp_of_mem fun {x y} hx hy' hne e => hne ?_)
        obtain ⟨x', _, rfl⟩ := inK x hx
        obtain ⟨y', _, rfl⟩ := inK y hy'
        simp [prL] at e ⊢
        exact e
      · constructor
        · intro hp
          obtain ⟨z, hz, rfl⟩ := List.mem_map.mp hp
          obtain ⟨y, hm, rfl⟩ := inK z hz
          exact List.mem_map.mpr ⟨y, hm, rfl⟩
        · intro hp
          obtain ⟨y, hm, rfl⟩ := List.mem_map.mp hp
          have := g.all (prL H1 y) (by rw [List.take_length]; exact List.mem_map.mpr ⟨y, hm, rfl⟩)
          obtain ⟨z, hz, e⟩ := List.mem_map.mp this
          exact List.mem_map.mpr ⟨z, hz, by rw [e]; rfl⟩
  · obtain ⟨ps, e, hl, q⟩ := q
    obtain ⟨pa, ys, rfl, hp, rr⟩ := lstOf_ok p.rh p.rr e
    have each : ∀ y ∈ ys, ∃ b, y = .ref b ∧ H1 b = some (.tup [.int (pairAt H1 y).1, .int (pairAt H1 y).2]) := fun y hy => by
      obtain ⟨i, hi⟩ := List.mem_iff_getElem?.mp hy
      obtain ⟨w, hw, rw'⟩ := rr.getV hi
      rw [List.getElem?_map] at hw
      obtain ⟨c, _, rfl⟩ := Option.map_eq_some_iff.mp hw
      obtain ⟨b, rfl, ht⟩ := rels_pv rw'
      exact ⟨b, rfl, by rw [pairAt_eq ht]; exact ht⟩
    have eps : ps = ys.map (pairAt H1) := by
      apply List.ext_getElem?
      intro i
      rw [List.getElem?_map]
      cases e : ps[i]? with
      | none =>
        have := List.getElem?_eq_none_iff.mp e
        rw [List.getElem?_eq_none (by rw [← rr.len, List.length_map]; exact this)]; rfl
      | some c =>
        obtain ⟨y, hy, ry⟩ := rr.get (i := i) (x := pv c) (by rw [List.getElem?_map, e]; rfl)
        obtain ⟨b, rfl, ht⟩ := rels_pv ry
        rw [hy, Option.map_some, pairAt_eq ht]
    refine ⟨pa, ys, rfl, .of hp, each, by rw [← rr.len, List.length_map]; exact hl, fun c hcu => k _ _ _ _ _ ((Pst.val p.rh .int).from_ p.ev p.rh) (q c (by rw [eps]; exact hcu))⟩
end
section
variable {ρ : VL.Env} {h : VH} {Q : R → VH → Prop} {ga : GE}
theorem t_lsetP (q : ga ρ h fun r h1 => ∃ ps : List (Int × Int), lstOf h1 r = some (ps.map pv) ∧ ps.length < 64 ∧ ∀ c : Nat, Unl ps c → Q (.val (.int c)) h1) : gLenSetP ga ρ h Q := q
end
end VL

set_option autoImplicit false
/-! VL42: what a dict holds behind d[k] = v and behind del d[k]. -/
namespace VL
open PySem L2
section
variable {κ : Type} [DecidableEq κ]
theorem vG_len {ks : List κ} {vs : List VV} {k : κ} {v : VV} : (pVs ks vs k v).length = vs.length + (pKs ks k).length - ks.length ∨ vs.length ≠ ks.length := by
  by_cases h : vs.length = ks.length
  · left
    unfold pVs pKs
    split
    · have : ∀ (ks : List κ) (vs : List VV), vs.length = ks.length → (pG ks vs k v).length = vs.length := by
        intro ks
        induction ks with
        | nil => intro vs e; cases vs with
          | nil => rfl
          | cons => simp at e
        | cons q ks ih => intro vs e; cases vs with
          | nil => simp at e
          | cons w vs => simp [pG, ih vs (by simpa using e)]
      rw [this ks vs h]; omega
    · simp; omega
  · exact .inr h
theorem put_len {ks : List κ} {vs : List VV} {k : κ} {v : VV} (e : vs.length = ks.length) : (pVs ks vs k v).length = (pKs ks k).length := by
  rcases vG_len (ks := ks) (vs := vs) (k := k) (v := v) with h | h
  · have : ks.length ≤ (pKs ks k).length := by unfold pKs; split <;> simp
    omega
  · exact absurd e h
theorem vG_none {k : κ} : ∀ {ks : List κ} {vs : List VV}, k ∉ ks → vG ks vs k = none
  | [], _, _ => by simp [vG]
  | q :: ks, [], _ => by simp [vG]
  | q :: ks, v :: vs, h => by
    rw [vG, if_neg (fun e => h (by simp [e])), vG_none (fun z => h (by simp [z]))]
theorem vG_mem {k : κ} : ∀ {ks : List κ} {vs : List VV}, vs.length = ks.length → k ∈ ks → (vG ks vs k).isSome = true
  | [], _, _, h => by simp at h
  | q :: ks, [], e, _ => by simp at e
  | q :: ks, v :: vs, e, h => by
    rw [vG]
    split
    · rfl
    · rename_i c
      exact vG_mem (by simpa using e) ((List.mem_cons.mp h).resolve_left fun z => c z.symm)
theorem vG_app {k q : κ} {w : VV} : ∀ {ks : List κ} {vs : List VV}, vs.length = ks.length → k ∉ ks → vG (ks ++ [k]) (vs ++ [w]) q = if k = q then some w else vG ks vs q
  | [], [], _, _ => by simp [vG]
  | [], _ :: _, e, _ => by simp at e
  | _ :: _, [], e, _ => by simp at e
  | p :: ks, v :: vs, e, h => by
    have ih := vG_app (k := k) (q := q) (w := w) (ks := ks) (vs := vs) (by simpa using e) (fun z => h (by simp [z]))
    rw [List.cons_append, List.cons_append, vG, vG, ih]
    by_cases c : p = q
    · rw [if_pos c, if_pos c, if_neg (fun z => h (by simp [c, z]))]
    · rw [if_neg c, if_neg c]
theorem vG_pG {k q : κ} {w : VV} : ∀ {ks : List κ} {vs : List VV}, vs.length = ks.length → k ∈ ks → vG ks (pG ks vs k w) q = if k = q then some w else vG ks vs q
  | [], _, _, h => by simp at h
  | _ :: _, [], e, _ => by simp at e
  | p :: ks, v :: vs, e, h => by
    rw [pG, vG, vG]
    by_cases c : p = k
    · subst c
      by_cases z : p = q
      · simp [z]
      · rw [if_neg z, if_neg z, if_neg z]
        by_cases hm : p ∈ ks
        · rw [vG_pG (by simpa using e) hm, if_neg z]
        · have : ∀ (ks : List κ) (vs : List VV), p ∉ ks → vs.length = ks.length → pG ks vs p w = vs := by
            intro ks
            induction ks with
            | nil => intro vs _ e; cases vs with
              | nil => rfl
              | cons => simp at e
            | cons r ks ih => intro vs hn e; cases vs with
              | nil => simp at e
              | cons v vs => rw [pG, if_neg (fun z => hn (by simp [z])), ih vs (fun z => hn (by simp [z])) (by simpa using e)]
          rw [this ks vs hm (by simpa using e)]
    · have hm : k ∈ ks := (List.mem_cons.mp h).resolve_left fun z => c z.symm
      rw [if_neg c, vG_pG (by simpa using e) hm]
      by_cases z : p = q
      · rw [if_pos z, if_pos z, if_neg (fun y => c (by rw [z, y]))]
      · rw [if_neg z, if_neg z]
/-- d[k] = w -/
theorem vG_put {ks : List κ} {vs : List VV} {k q : κ} {w : VV} (e : vs.length = ks.length) : vG (pKs ks k) (pVs ks vs k w) q = if k = q then some w else vG ks vs q := by
  unfold pKs pVs
  split
  · rename_i h; exact vG_pG e h
  · rename_i h; exact vG_app e h
theorem drop_len {k : κ} : ∀ {ks : List κ} {vs : List VV}, vs.length = ks.length → (dVs ks vs k).length = (dKs ks k).length
  | [], [], _ => rfl
  | [], _ :: _, e => by simp at e
  | _ :: _, [], e => by simp at e
  | p :: ks, v :: vs, e => by
    have ih := drop_len (k := k) (ks := ks) (vs := vs) (by simpa using e)
    unfold dKs at ih ⊢
    rw [dVs]
    by_cases c : p = k
    · rw [if_pos c, List.filter_cons_of_neg (by simpa using c)]; exact ih
    · rw [if_neg c, List.filter_cons_of_pos (by simpa using c), List.length_cons, List.length_cons, ih]
/-- del d[k] -/
theorem vG_drop {k q : κ} : ∀ {ks : List κ} {vs : List VV}, vs.length = ks.length → vG (dKs ks k) (dVs ks vs k) q = if k = q then none else vG ks vs q
  | [], [], _ => by simp [dKs, dVs, vG]
  | [], _ :: _, e => by simp at e
  | _ :: _, [], e => by simp at e
  | p :: ks, v :: vs, e => by
    have ih := vG_drop (k := k) (q := q) (ks := ks) (vs := vs) (by simpa using e)
    unfold dKs at ih ⊢
    rw [dVs, vG]
    by_cases c : p = k
    · rw [if_pos c, List.filter_cons_of_neg (by simpa using c), ih]
      by_cases z : k = q
      · rw [if_pos z, if_pos z]
      · rw [if_neg z, if_neg z, if_neg (fun y => z (c ▸ y))]
    · rw [if_neg c, List.filter_cons_of_pos (by simpa using c), vG, ih]
      by_cases z : p = q
      · rw [if_pos z, if_pos z, if_neg (fun y => c (by rw [z, y]))]
      · rw [if_neg z, if_neg z]
end
end VL

set_option autoImplicit false
/-! VL43: tuples that the program made, with their methods: index. -/
namespace VL
open PySem L2
section
variable {X : Cx} {a b : Expr} {ga gb : GE}
def rTix (K : PySem.W.Frag) : V → List V → Hp → VK → Prop := fun x xs H Q => ∃ (p : Addr) (ys : List V) (y : V) (j : Nat) (z : V), x = .ref p ∧ xs = [y] ∧ FtT H p ys ∧ flatV y = true ∧ ys.all flatV = true ∧ ys[j]? = some z ∧ eqV z y = true ∧
  (∀ (n : Nat) (w : V), n < j → ys[n]? = some w → eqV w y = false) ∧ Q (.int (j : Nat)) H
theorem mt_tix : MtR X "tuple.index" (rTix X.K) := by
  intro pins s σ H x xs v us Q I rx rs hw
  obtain ⟨p, ys, y, j, z, rfl, rfl, hq, fy, fys, hy, hz, hno, q⟩ := hw
  cases rx
  obtain ⟨u, rfl, ru⟩ := vals1 rs
  obtain ⟨its, r, ⟨⟨cls, dd, dt, sl⟩, ho, hc, n, hd⟩, _⟩ := I.tuple (FtT.sq (K := X.K) hq)
  simp only at hc hd
  subst hc hd
  have place : ∀ (k : Nat) (w : V) (hk : k < its.toArray.size), ys[k]? = some w → eqU y its.toArray[k] = eqV w y := fun k w hk e => by
    obtain ⟨t, ht, rt⟩ := r.get e
    have := (List.getElem?_eq_some_iff.mp ht).2
    rw [← eqU_of rt (flat_at fys e), ← this]
    simp
  have size : its.toArray.size = ys.length := by rw [List.size_toArray, r.length]
  have hj : j < its.toArray.size := size ▸ (List.getElem?_eq_some_iff.mp hy).1
  refine call_meets PySem.F.slot_tuple_index ⟨_, ho, rfl⟩ PySem.F.entry_tuple_index (PySem.F.args_tuple_index_2 _ _) (TI.tuple_indexAt p its.toArray n dd sl u (eqU y) j hj ((place j z hj hy).trans hz) fun k hk hkj => ?_)
    ⟨ho, fun w hw => mem_eqAt ru fy r fys w (by simpa using hw), ⟨.int (j : Nat), H, I.tok _, ⟨_, rfl⟩, q⟩⟩
  have e := List.getElem?_eq_getElem (l := ys) (i := k) (size ▸ hk)
  rw [place k _ hk e]
  exact hno k _ hkj e
/-- a method of a tuple that stands in the heap -/
theorem pe_tm {T id : String} {name : Str} {apos cpos : Pos} {o e : Expr} {es : List Expr} {to : TE} {t : TA} {r : V → List V → Hp → VK → Prop} (pa : PlainAttrs "tuple") (slot : Slot "tuple" name id) (hty : typeOf (.builtin id) = pure (.type "method_descriptor")) (hm : MtR X id r) (ho : PE X o to) (ha : PA X (e :: es) t)
    (hbase : attributeBase o name X.env (eval o X.env) = eval o X.env) (hfew : ((backTo cpos (starEach (e :: es) X.env)).all (fun x => !x.1) && (backToKw cpos (keywordEach [] X.env)).all (fun x => x.1.isSome)
      && decide ((e :: es).length + ([] : List Keyword).length + (if ([] : List Keyword).isEmpty then 0 else 1) < 30)) = true)
    (hline : (apos.endLine == cpos.line) = true) (hs : starEach (e :: es) X.env = (false, eval e X.env) :: starEach es X.env) (hpl : (backTo cpos (starEach es X.env)).any (·.1) = false) :
    PE X (.Call (.Attribute o name apos) (e :: es) [] cpos) (fun σ H Q => to σ H fun x H1 => (∃ p ys, x = .ref p ∧ FtT H1 p ys) ∧ t σ H1 fun vs H2 => r x vs H2 Q) := by
  refine ⟨fun pins s σ H Q I hw => ?_⟩
  refine wpAny_Call_method_late hbase hfew hline rfl (thn (ho.run pins s σ H _ I hw) fun v s1 ⟨x, H1, I1, r1, ⟨p, ys, ex, hq⟩, q1⟩ => ?_)
  subst ex
  obtain rfl : v = Value.ref p := r1
  obtain ⟨its, _, pl, _⟩ := I1.tuple (FtT.sq (K := X.K) hq)
  have is1 : s1.TypeIs (.ref p) "tuple" ∧ ∀ a, Value.ref p = .ref a → ∃ ob, s1.heap.get? a = some ob ∧ ob.dict = none := by
    obtain ⟨ob, hf, h3⟩ := hq
    obtain ⟨h1, _⟩ := I1.hok p _ hf
    obtain ⟨o2, h4, h2, _⟩ := pl
    rw [h1] at h4
    cases h4
    exact ⟨⟨ob, h1, h2⟩, fun a e => by cases e; exact ⟨ob, h1, h3⟩⟩
  refine ⟨"tuple", id, pa, slot, hty, is1.1, is1.2, ?_⟩
  have hA := ha.run cpos pins s1 σ H1 _ I1 q1
  rw [hs] at hA ⊢
  refine Calls.callWith_builtin (by show (false || (backTo cpos (starEach es X.env)).any (·.1)) = false; rw [hpl] <;> rfl) (Calls.evalArgs_plain ?_)
  exact thn hA fun us s2 ⟨vs, H2, I2, r2, q2⟩ => hm pins s2 σ H2 (.ref p) vs (.ref p) us Q I2 rfl r2 q2
/-- t.index(v), t a tuple of flat values -/
def kTix (gb : GE) (ρ : VL.Env) (Q : R → VH → Prop) (r : R) (h1 : VH) : Prop := ∃ xs, r = .val (.ftp xs) ∧ gb ρ h1 fun s h2 => ∃ (v : VV) (j : Nat), s = .val v ∧ flatVV v = true ∧ xs.all flatVV = true ∧ xs.findIdx? (fun z => eqF z v) = some j ∧ Q (.val (.int (j : Nat))) h2
def gTix (ga gb : GE) : GE := fun ρ h Q => ga ρ h fun r h1 => kTix gb ρ Q r h1
theorem mtix {apos cpos : Pos} (ha : MX X a ga) (hb : MX X b gb) (h1 : attributeBase a "index" X.env (eval a X.env) = eval a X.env := by rfl)
    (h2 : (((backTo cpos (starEach [b] X.env)).all (fun x => !x.1) && (backToKw cpos (keywordEach [] X.env)).all (fun x => x.1.isSome)) && decide (([b].length + ([] : List Keyword).length + if ([] : List Keyword).isEmpty = true then 0 else 1) < 30)) = true := by rfl)
    (h3 : (apos.endLine == cpos.line) = true := by rfl) (hs : starEach [b] X.env = [(false, eval b X.env)] := by rfl) : MX X (.Call (.Attribute a "index" apos) [b] [] cpos) (gTix ga gb) := by
  obtain ⟨t, a1, a2⟩ := ha.ex
  obtain ⟨u, b1, b2⟩ := hb.ex
  refine ⟨_, pe_tm (T := "tuple") PySem.F.plainAttrs_tuple PySem.F.slot_tuple_index PySem.F.type_tuple_index mt_tix a1 (pa_cons b1 pa_nil hs) h1 h2 h3 hs rfl, fun m h H ρ σ QV Q rh re hg k => a2 m h H ρ σ _ _ rh re hg fun m1 H1 h1 r x p q => ?_⟩
  obtain ⟨xs, rfl, q⟩ := q
  obtain ⟨pa, ys, rfl, hp, rr⟩ := RelT.ftp_inv p.rr
  refine ⟨⟨pa, ys, rfl, hp⟩, b2 m1 h1 H1 ρ σ _ _ p.rh (re.mono p.ev) q fun m2 H2 h2 s y p2 q2 => ?_⟩
  obtain ⟨v, j, rfl, fv, fx, hj, q2⟩ := q2
  have r2 := rr.mono p2.ev
  obtain ⟨j1, j2, j3⟩ := List.findIdx?_eq_some_iff_getElem.mp hj
  have fa : ∀ {i : Nat} {w : VV}, xs[i]? = some w → flatVV w = true := fun e => List.all_eq_true.mp fx _ (List.mem_of_getElem? e)
  obtain ⟨z, hz, rz⟩ := r2.get (List.getElem?_eq_getElem j1)
  refine ⟨pa, ys, y, j, z, rfl, rfl, p2.ev.ft _ _ hp, flat_ok p2.rr fv, (any_ok p2.rr fv r2 fx).1, hz, ?_, fun n w hn hw => ?_, k _ _ _ _ _ ((Pst.val p2.rh .int).from_ (p.ev.trans p2.ev) p2.rh) q2⟩
  · rw [eqF_ok rz p2.rr (fa (List.getElem?_eq_getElem j1)) fv]; exact j2
  · obtain ⟨w', hw', rw'⟩ := r2.getV hw
    rw [eqF_ok rw' p2.rr (fa hw') fv]
    have := j3 n hn
    have e := (List.getElem?_eq_some_iff.mp hw').2
    rw [e] at this
    simpa using this
/-- tuple(list), told as one without a dict of its own -/
theorem call_tupleF : CallR X (.type "tuple") (fun xs H Q => ∃ p ys, xs = [.ref p] ∧ SqL X.K H p ys ∧ ∀ l ob, H l = none → ob.dict = none → Q (.ref l) (upd H l (.frz ob (.tup ys)))) := by
  rintro pins s σ H _ us Q I r ⟨p, ys, rfl, hq, q⟩
  obtain ⟨u, rfl, rx⟩ := vals1 r
  cases rx
  obtain ⟨its, rv, pl, hz⟩ := I.list hq
  have sz : its.length ≤ sizeLine := rv.length ▸ hz
  exact call_tuple_list pl.isList (fun h1 kept => ⟨.ref h1.objs.size, _, (I.kept (t' := s.toks) kept).laid (o := .frz { cls := .type "tuple", data := .seq its.toArray } (.tup ys)) (t' := s.toks) (fun b o e => Heap.get?_push_of_some _ e) (Nat.le_refl _)
      ⟨Heap.get?_push_size _ rfl, hz, its, rv, ⟨_, Heap.get?_push_size _ rfl, rfl, _, rfl⟩⟩, rfl, q _ _ ((I.kept (t' := s.toks) kept).hok.fresh (Nat.le_refl _)) rfl⟩) (by rw [List.size_toArray]; omega)
def guTupleF : GU := fun x h Q => match lstOf h x with
  | some xs => Q (.val (.ftp xs)) h
  | none => False
theorem mc_tupleF : MC1 X (.type "tuple") guTupleF := by
  refine ⟨_, call_tupleF, fun m h H x rx QV Q rh r1 q k => ?_⟩
  unfold guTupleF at q
  split at q
  · rename_i xs hx
    obtain ⟨p, ys, rfl, h2, r⟩ := lstOf_ok rh r1 hx
    exact ⟨p, ys, rfl, .of h2, fun l ob hl hd => k m _ h (.val (.ftp xs)) _ ⟨Ev.laid hl, rh.laid hl, RelT.ftp ⟨ob, upd_same, hd⟩ r.len (r.mono (Ev.laid hl)).at_, fun _ _ z => by cases z⟩ q⟩
  · exact q.elim
variable {x : R} {h : VH} {Q : R → VH → Prop} {ρ : VL.Env}
theorem t_tupleF {xs : List VV} (e1 : lstOf h x = some xs) (q : Q (.val (.ftp xs)) h) : guTupleF x h Q := by unfold guTupleF; rw [e1]; exact q
theorem t_tix (q : ga ρ h fun r h1 => kTix gb ρ Q r h1) : gTix ga gb ρ h Q := q
end
/-- what is a tuple, of either kind -/
def tupV : VV → Option (List VV)
  | .tup xs => some xs
  | .ftp xs => some xs
  | _ => none
theorem tupV_seq {v : VV} {xs : List VV} {h : VH} (e : tupV v = some xs) : seqOf h (.val v) = some xs := by
  cases v <;> simp [tupV] at e <;> subst e <;> rfl
theorem tupV_st {v : VV} {xs : List VV} (e : tupV v = some xs) : stOf (.val v) xs = fun _ => True := by
  cases v <;> simp [tupV] at e <;> rfl
theorem tupV_ty {v : VV} {xs : List VV} {h : VH} (e : tupV v = some xs) : tyR h (.val v) = some "tuple" := by
  cases v <;> simp [tupV] at e <;> rfl
end VL

set_option autoImplicit false
/-! VL44: a greatest pairing by its holders, and the lines that meet all wishes. -/
namespace VL
open PySem L2
def plcOf (os : OL) (r : Int) : Option Int := (os.findIdx? fun o => o == some r).map fun (i : Nat) => (i : Int)
theorem plcOf_some {os : OL} {r j : Int} (e : plcOf os r = some j) : ∃ c : Nat, j = c ∧ c < os.length ∧ hd os c = some r := by
  obtain ⟨c, hc, rfl⟩ := Option.map_eq_some_iff.mp e
  obtain ⟨h1, h2, _⟩ := List.findIdx?_eq_some_iff_getElem.mp hc
  refine ⟨c, rfl, h1, ?_⟩
  unfold hd
  rw [List.getD_eq_getElem?_getD, List.getElem?_eq_getElem h1]
  exact eq_of_beq h2
theorem plcOf_none {os : OL} {r : Int} (e : plcOf os r = none) (c : Nat) : hd os c ≠ some r := fun h => by
  have e := Option.map_eq_none_iff.mp e
  rw [List.findIdx?_eq_none_iff] at e
  unfold hd at h
  rw [List.getD_eq_getElem?_getD] at h
  cases q : os[c]? with
  | none => rw [q] at h; cases h
  | some o =>
    rw [q] at h
    have := e o (List.mem_of_getElem? q)
    rw [show o = some r from h] at this
    simp at this
section
variable {n : Nat} {rows : List (List Int)} {os : OL} {R : List Nat}
theorem plcOf_hold (H : Hold n rows os fun _ => False) {c : Nat} {r : Int} (e : hd os c = some r) : plcOf os r = some (c : Int) := by
  cases q : plcOf os r with
  | none => exact absurd e (plcOf_none q c)
  | some j =>
    obtain ⟨c', rfl, _, e'⟩ := plcOf_some q
    rw [H.inj c c' r id id e e']
theorem hd_lt (H : Hold n rows os fun _ => False) {c : Nat} {r : Int} (e : hd os c = some r) : c < n := by
  rw [← H.len]
  apply Classical.byContradiction
  intro h
  unfold hd at e
  rw [List.getD_eq_getElem?_getD, List.getElem?_eq_none (by omega)] at e
  cases e
def pairOf (n : Nat) (os : OL) : OL := (List.range n).map fun (r : Nat) => plcOf os r
theorem pairOf_len : (pairOf n os).length = n := by simp [pairOf]
theorem pairOf_at {r : Nat} (h : r < n) : (pairOf n os)[r]? = some (plcOf os r) := by
  unfold pairOf
  rw [List.getElem?_map, List.getElem?_range h]; rfl
theorem pairOf_get {r : Nat} {j : Int} (e : (pairOf n os)[r]? = some (some j)) : r < n ∧ ∃ c : Nat, j = c ∧ c < os.length ∧ hd os c = some (r : Int) := by
  have h : r < n := by have := (List.getElem?_eq_some_iff.mp e).1; simpa [pairOf_len] using this
  rw [pairOf_at h] at e
  exact ⟨h, plcOf_some (Option.some.inj e)⟩
theorem pairOf_pair (H : Hold n rows os fun _ => False) : Pair n (pairOf n os) := by
  refine ⟨pairOf_len, fun j hj => ?_, fun i k j e1 e2 => ?_⟩
  · obtain ⟨r, hr⟩ := List.mem_iff_getElem?.mp hj
    obtain ⟨_, c, rfl, h1, _⟩ := pairOf_get hr
    rw [H.len] at h1
    exact ⟨by omega, by omega⟩
  · obtain ⟨_, c, rfl, _, h1⟩ := pairOf_get e1
    obtain ⟨_, c', h2, _, h3⟩ := pairOf_get e2
    have : c = c' := by omega
    subst this
    rw [h1] at h3
    have := Option.some.inj h3
    omega
theorem pairOf_within (H : Hold n rows os fun _ => False) {i : Nat} {j : Int} (e : (pairOf n os)[i]? = some (some j)) : aij rows i j.toNat ≠ 0 := by
  obtain ⟨_, c, rfl, _, h1⟩ := pairOf_get e
  have := H.wi c i id h1
  simpa using this
/-- the columns that chains reach -/
structure Rch (n : Nat) (rows : List (List Int)) (os : OL) (R : List Nat) : Prop where
  nd : R.Nodup
  held : ∀ c ∈ R, c < n ∧ ∃ x, hd os c = some x ∧ NS n rows x (· ∈ R)
  free : ∀ y : Nat, y < n → (∀ c, hd os c ≠ some (y : Int)) → NS n rows y (· ∈ R)
def lnOf (R : List Nat) (p : Nat × Int) : Int × Int := if p.2.toNat ∈ R then (1, p.2) else (0, p.1)
/-- a greatest pairing with lines that show it -/
structure Gr (n : Nat) (rows : List (List Int)) (ps : OL) (ls : List (Int × Int)) : Prop where
  pair : Pair n ps
  wi : ∀ (i : Nat) (j : Int), ps[i]? = some (some j) → aij rows i j.toNat ≠ 0
  lr : ∀ l ∈ ls, (l.1 = 0 ∨ l.1 = 1) ∧ 0 ≤ l.2 ∧ l.2 < n
  rise : ls.Pairwise fun p q => p.1 < q.1 ∨ (p.1 = q.1 ∧ p.2 < q.2)
  len : ls.length = (cel ps).length
  cov : ∀ i j : Nat, i < n → j < n → aij rows i j ≠ 0 → ((0 : Int), (i : Int)) ∈ ls ∨ ((1 : Int), (j : Int)) ∈ ls
theorem cel_pw (os : OL) : (cel os).Pairwise fun p q => p.1 < q.1 := by
  unfold cel
  rw [List.pairwise_filterMap]
  refine List.Pairwise.imp ?_ (List.pairwise_lt_range)
  intro a b h p hp q hq
  obtain ⟨_, _, rfl⟩ := Option.map_eq_some_iff.mp hp
  obtain ⟨_, _, rfl⟩ := Option.map_eq_some_iff.mp hq
  exact h
theorem lnOf_nd {ps : OL} (p : Pair n ps) : ((cel ps).map (lnOf R)).Nodup := by
  unfold List.Nodup
  rw [List.pairwise_map]
  refine List.Pairwise.imp_of_mem ?_ (cel_pw ps)
  rintro ⟨i, j⟩ ⟨k, l⟩ h1 h2 lt e
  have h1 := mem_cel.mp h1
  have h2 := mem_cel.mp h2
  dsimp only at lt
  unfold lnOf at e
  dsimp only at e
  split at e
  · split at e
    · have := (Prod.mk.inj e).2
      subst this
      have := p.nd i k j h1 h2
      omega
    · exact absurd (Prod.mk.inj e).1 (by decide)
  · split at e
    · exact absurd (Prod.mk.inj e).1 (by decide)
    · have := (Prod.mk.inj e).2
      omega
theorem gr_of {qs : List (Int × Int)} (H : Hold n rows os fun _ => False) (Rc : Rch n rows os R) (hq : qs.Perm ((cel (pairOf n os)).map (lnOf R))) (hs : qs.Pairwise lexLe) : Gr n rows (pairOf n os) qs := by
  have P := pairOf_pair H
  have nd : qs.Nodup := hq.nodup_iff.mpr (lnOf_nd P)
  have cell : ∀ {i : Nat} {c : Nat}, hd os c = some (i : Int) → i < n → (i, (c : Int)) ∈ cel (pairOf n os) := fun {i c} e hi => mem_cel.mpr (by rw [pairOf_at hi, plcOf_hold H e])
  refine ⟨P, fun i j e => pairOf_within H e, fun l hl => ?_, ?_, by rw [hq.length_eq, List.length_map], fun i j hi hj w => ?_⟩
  · obtain ⟨⟨i, j⟩, hm, rfl⟩ := List.mem_map.mp (hq.mem_iff.mp hl)
    have hm := mem_cel.mp hm
    have hi : i < n := by have := (List.getElem?_eq_some_iff.mp hm).1; simpa [pairOf_len] using this
    obtain ⟨j0, j1⟩ := P.rng j (List.mem_of_getElem? hm)
    unfold lnOf
    split
    · exact ⟨.inr rfl, j0, j1⟩
    · exact ⟨.inl rfl, by dsimp only; omega, by dsimp only; omega⟩
  · refine (hs.and nd).imp ?_
    rintro ⟨a, b⟩ ⟨c, d⟩ ⟨h1, h2⟩
    have h1 := SrtO.lexB_no.mp h1
    dsimp only at h1 ⊢
    by_cases e : a = c
    · subst e
      by_cases e2 : b = d
      · subst e2; exact absurd rfl h2
      · omega
    · omega
  · have mem : ∀ {p : Nat × Int}, p ∈ cel (pairOf n os) → lnOf R p ∈ qs := fun h => hq.mem_iff.mpr (List.mem_map.mpr ⟨_, h, rfl⟩)
    by_cases hR : j ∈ R
    · right
      obtain ⟨_, x, e, _⟩ := Rc.held j hR
      obtain ⟨x0, x1⟩ := H.rng j x e
      obtain ⟨z, rfl⟩ : ∃ z : Nat, x = (z : Int) := ⟨x.toNat, by omega⟩
      have := mem (cell e (by omega))
      unfold lnOf at this
      rw [if_pos (by simpa using hR)] at this
      exact this
    · left
      by_cases hf : ∃ c, hd os c = some (i : Int)
      · obtain ⟨c, e⟩ := hf
        have := mem (cell e hi)
        unfold lnOf at this
        have hc : c ∉ R := fun hc => by
          obtain ⟨_, x, e', ns⟩ := Rc.held c hc
          rw [e] at e'
          cases e'
          exact hR (ns j hj (by simpa using w))
        rw [if_neg (by simpa using hc)] at this
        exact this
      · exact absurd (Rc.free i hi (fun c e => hf ⟨c, e⟩) j hj (by simpa using w)) hR
end
end VL

set_option autoImplicit false
/-! VL45: what chains reach, walked by a stack of rows. -/
namespace VL
open PySem L2
structure RI (n : Nat) (rows : List (List Int)) (os : OL) (D : Nat → Prop) (st R : List Nat) (ex : Nat → Prop) : Prop where
  nd : R.Nodup
  sub : ∀ c ∈ R, D c
  stl : ∀ r ∈ st, r < n ∧ NS n rows r D
  held : ∀ c ∈ R, c < n ∧ ∃ x : Nat, hd os c = some (x : Int) ∧ x < n ∧ (x ∈ st ∨ ex x ∨ NS n rows x (· ∈ R))
  free : ∀ y : Nat, y < n → (∀ c, hd os c ≠ some (y : Int)) → y ∈ st ∨ ex y ∨ NS n rows y (· ∈ R)
section
variable {n : Nat} {rows : List (List Int)} {os : OL} {D : Nat → Prop} {st R : List Nat} {r c : Nat}
theorem RI.pop (h : RI n rows os D (st ++ [r]) R fun _ => False) : RI n rows os D st R (· = r) := by
  have mv : ∀ {x : Nat}, x ∈ st ++ [r] → x ∈ st ∨ x = r := fun z => (List.mem_append.mp z).imp id fun z => List.mem_singleton.mp z
  refine ⟨h.nd, h.sub, fun x hx => h.stl x (by simp [hx]), fun c hc => ?_, fun y hy hf => ?_⟩
  · obtain ⟨h1, x, h2, h3, h4⟩ := h.held c hc
    refine ⟨h1, x, h2, h3, ?_⟩
    rcases h4 with h4 | h4 | h4
    · exact (mv h4).imp id .inl
    · exact h4.elim
    · exact .inr (.inr h4)
  · rcases h.free y hy hf with h4 | h4 | h4
    · exact (mv h4).imp id .inl
    · exact h4.elim
    · exact .inr (.inr h4)
theorem RI.top (h : RI n rows os D (st ++ [r]) R fun _ => False) : r < n ∧ NS n rows r D := h.stl r (by simp)
theorem RI.add {x : Nat} (h : RI n rows os D st R (· = r)) (H : Hold n rows os fun _ => False) (hc : c ∉ R) (hn : c < n) (hD : D c) (hx : hd os c = some (x : Int)) (ns : NS n rows x D) : RI n rows os D (st ++ [x]) (R ++ [c]) (· = r) := by
  have up : ∀ {z : Int}, NS n rows z (· ∈ R) → NS n rows z (· ∈ R ++ [c]) := fun q => q.mono fun c hc => List.mem_append.mpr (.inl hc)
  have x1 := (H.rng c x hx).2
  have mv : ∀ {y : Nat}, (y ∈ st ∨ y = r ∨ NS n rows y (· ∈ R)) → (y ∈ st ++ [x] ∨ y = r ∨ NS n rows y (· ∈ R ++ [c])) := fun z => by
    rcases z with z | z | z
    · exact .inl (List.mem_append.mpr (.inl z))
    · exact .inr (.inl z)
    · exact .inr (.inr (up z))
  refine ⟨List.nodup_append.mpr ⟨h.nd, by simp, fun a ha b hb e => hc (by rw [List.mem_singleton.mp hb] at e; exact e ▸ ha)⟩, fun d hd => ?_, fun y hy => ?_, fun d hd => ?_, fun y hy hf => mv (h.free y hy hf)⟩
  · rcases List.mem_append.mp hd with z | z
    · exact h.sub d z
    · rw [List.mem_singleton.mp z]; exact hD
  · rcases List.mem_append.mp hy with z | z
    · exact h.stl y z
    · rw [List.mem_singleton.mp z]; exact ⟨by omega, ns⟩
  · rcases List.mem_append.mp hd with z | z
    · obtain ⟨h1, y, h2, h3, h4⟩ := h.held d z
      exact ⟨h1, y, h2, h3, mv h4⟩
    · rw [List.mem_singleton.mp z]
      exact ⟨hn, x, hx, by omega, .inl (by simp)⟩
theorem RI.done (h : RI n rows os D st R (· = r)) (ns : NS n rows r (· ∈ R)) : RI n rows os D st R fun _ => False := by
  have mv : ∀ {y : Nat}, (y ∈ st ∨ y = r ∨ NS n rows y (· ∈ R)) → (y ∈ st ∨ False ∨ NS n rows y (· ∈ R)) := fun z => by
    rcases z with z | rfl | z
    · exact .inl z
    · exact .inr (.inr ns)
    · exact .inr (.inr z)
  refine ⟨h.nd, h.sub, h.stl, fun c hc => ?_, fun y hy hf => mv (h.free y hy hf)⟩
  obtain ⟨h1, x, h2, h3, h4⟩ := h.held c hc
  exact ⟨h1, x, h2, h3, mv h4⟩
theorem RI.end (h : RI n rows os D [] R fun _ => False) : Rch n rows os R := by
  refine ⟨h.nd, fun c hc => ?_, fun y hy hf => ?_⟩
  · obtain ⟨h1, x, h2, h3, h4⟩ := h.held c hc
    exact ⟨h1, x, h2, by simpa using h4⟩
  · simpa using h.free y hy hf
theorem RI.len (h : RI n rows os D st R fun _ => False) : R.length ≤ n := by
  have := nodup_le R (List.range n) h.nd fun c hc => List.mem_range.mpr (h.held c hc).1
  simpa using this
/-- the rows without a column -/
def unp (n : Nat) (ps : OL) : List Nat := (List.range n).filterMap fun i => if ps.getD i none = none then some i else none
theorem mem_unp {ps : OL} : r ∈ unp n ps ↔ r < n ∧ ps.getD r none = none := by
  unfold unp
  rw [List.mem_filterMap]
  constructor
  · rintro ⟨i, hi, e⟩
    split at e
    · cases e; exact ⟨List.mem_range.mp hi, by assumption⟩
    · cases e
  · rintro ⟨h1, h2⟩
    exact ⟨r, List.mem_range.mpr h1, by rw [if_pos h2]⟩
theorem unp_len {ps : OL} : (unp n ps).length ≤ n := by
  unfold unp
  have := List.length_filterMap_le (fun i => if ps.getD i none = none then some i else none) (List.range n)
  simpa using this
theorem getD_pair (h : r < n) : (pairOf n os).getD r none = plcOf os r := by
  rw [List.getD_eq_getElem?_getD, pairOf_at h]; rfl
theorem RI.start (G : GrInv n rows n os) (dd : ∀ y : Nat, y < n → (∀ c, hd os c ≠ some (y : Int)) → NS n rows y D) : RI n rows os D (unp n (pairOf n os)) [] fun _ => False := by
  refine ⟨List.nodup_nil, fun c hc => absurd hc (by simp), fun r hr => ?_, fun c hc => absurd hc (by simp), fun y hy hf => ?_⟩
  · obtain ⟨h1, h2⟩ := mem_unp.mp hr
    rw [getD_pair h1] at h2
    exact ⟨h1, dd r h1 (plcOf_none h2)⟩
  · left
    refine mem_unp.mpr ⟨hy, ?_⟩
    rw [getD_pair hy]
    cases e : plcOf os (y : Int) with
    | none => rfl
    | some j =>
      obtain ⟨c, _, _, h⟩ := plcOf_some e
      exact absurd h (hf c)
theorem flat_ov (ps : OL) : (ps.map ov).all flatVV = true := List.all_eq_true.mpr fun x hx => by
  obtain ⟨o, _, rfl⟩ := List.mem_map.mp hx
  cases o <;> rfl
theorem ix_pair {x : Nat} (H : Hold n rows os fun _ => False) (hx : x < n) (e : hd os c = some (x : Int)) : ((pairOf n os).map ov).findIdx? (fun z => eqF z (.int c)) = some x := by
  rw [List.findIdx?_eq_some_iff_getElem]
  have at_ : ∀ {k : Nat} (hk : k < n), ((pairOf n os).map ov)[k]'(by rw [List.length_map, pairOf_len]; exact hk) = ov (plcOf os k) := fun {k} hk => by
    rw [List.getElem_map]
    have := pairOf_at (os := os) hk
    rw [(List.getElem?_eq_some_iff.mp this).2]
  refine ⟨by rw [List.length_map, pairOf_len]; exact hx, ?_, fun k hk => ?_⟩
  · rw [at_ hx, plcOf_hold H e]
    simp [ov, eqF]
  · rw [at_ (by omega)]
    cases q : plcOf os (k : Int) with
    | none => simp [ov, eqF]
    | some j =>
      obtain ⟨c', rfl, _, h⟩ := plcOf_some q
      have : c' ≠ c := fun z => by
        subst z
        rw [e] at h
        have := Option.some.inj h
        omega
      simp [ov, eqF]
      omega
theorem t_dn {ρ : VL.Env} {h : VH} {Q : VL.R → VH → Prop} (q : Q (.new (.dic [] [])) h) : gDNew ρ h Q := q
end
end VL

set_option autoImplicit false
/-! VL46: no pairing has more cells than lines that meet its wishes; all pairings of a table. -/
namespace VL
open PySem L2
theorem cel_num (os : OL) : (cel os).length = (os.filterMap id).length := by
  have : (cel os).map Prod.snd = os.filterMap id := by
    unfold cel
    rw [List.map_filterMap]
    have e : (fun i => ((os.getD i none).map fun j => (i, j)).map Prod.snd) = fun i : Nat => id (os.getD i none) := by
      funext i
      cases os.getD i none <;> rfl
    rw [e]
    show List.filterMap (id ∘ fun i => os.getD i none) _ = _
    rw [← List.filterMap_map]
    congr 1
    apply List.ext_getElem?
    intro i
    rw [List.getElem?_map]
    by_cases h : i < os.length
    · rw [List.getElem?_range h, Option.map_some, List.getD_eq_getElem?_getD, List.getElem?_eq_getElem h]; rfl
    · rw [List.getElem?_eq_none (show (List.range os.length).length ≤ i by rw [List.length_range]; omega), List.getElem?_eq_none (show os.length ≤ i by omega)]; rfl
  rw [← this, List.length_map]
theorem cov_le {n : Nat} {os : OL} {L : List (Int × Int)} (P : Pair n os) (cov : ∀ (i : Nat) (j : Nat), os[i]? = some (some (j : Int)) → ((0 : Int), (i : Int)) ∈ L ∨ ((1 : Int), (j : Int)) ∈ L) : (cel os).length ≤ L.length := by
  have nn : ∀ {i : Nat} {j : Int}, (i, j) ∈ cel os → os[i]? = some (some j) ∧ 0 ≤ j := fun h => ⟨mem_cel.mp h, (P.rng _ (List.mem_of_getElem? (mem_cel.mp h))).1⟩
  have := cells_le (cs := (cel os).map fun p => (p.1, p.2.toNat)) (L := L.map fun l => (l.1.toNat, l.2.toNat)) ?_ ?_ ?_
  · simpa using this
  · unfold List.Nodup
    rw [List.pairwise_map, List.pairwise_map]
    exact (cel_pw os).imp fun h e => by dsimp only at e; omega
  · unfold List.Nodup
    rw [List.pairwise_map, List.pairwise_map]
    refine List.Pairwise.imp_of_mem ?_ (cel_pw os)
    rintro ⟨i, j⟩ ⟨k, l⟩ h1 h2 lt e
    obtain ⟨a1, a2⟩ := nn h1
    obtain ⟨b1, b2⟩ := nn h2
    dsimp only at e lt
    have : j = l := by omega
    subst this
    have := P.nd i k j a1 b1
    omega
  · intro c hc
    obtain ⟨⟨i, j⟩, hm, rfl⟩ := List.mem_map.mp hc
    obtain ⟨a1, a2⟩ := nn hm
    dsimp only
    have := cov i j.toNat (by rw [Int.toNat_of_nonneg a2]; exact a1)
    rw [Int.toNat_of_nonneg a2] at this
    rcases this with h | h
    · exact .inl (List.mem_map.mpr ⟨_, h, by simp⟩)
    · exact .inr (List.mem_map.mpr ⟨_, h, by simp⟩)
theorem Pair.lt {n : Nat} {os : OL} (P : Pair n os) {i : Nat} {o : Option Int} (e : os[i]? = some o) : i < n := by
  have := (List.getElem?_eq_some_iff.mp e).1
  rw [P.len] at this; exact this
/-- no pairing within the table has more cells -/
theorem Gr.most {n : Nat} {rows : List (List Int)} {ps os : OL} {ls : List (Int × Int)} (g : Gr n rows ps ls) (P : Pair n os) (w : ∀ (i : Nat) (j : Nat), os[i]? = some (some (j : Int)) → aij rows i j ≠ 0) : (cel os).length ≤ ls.length :=
  cov_le P fun i j e => g.cov i j (P.lt e) (by have := (P.rng _ (List.mem_of_getElem? e)).2; omega) (w i j e)
theorem Gr.wi' {n : Nat} {rows : List (List Int)} {ps : OL} {ls : List (Int × Int)} (g : Gr n rows ps ls) {i j : Nat} (e : ps[i]? = some (some (j : Int))) : aij rows i j ≠ 0 := by
  have := g.wi i j e
  simpa using this
/-! ### all pairings -/
def allG (n : Nat) (rows : List (List Int)) (r : Nat) (os : OL) : List OL := (os ++ [none]) :: (List.range n).filterMap fun (j : Nat) => if decide (0 < aij rows r j) && !decide (some (j : Int) ∈ os) then some (os ++ [some (j : Int)]) else none
def allP (n : Nat) (rows : List (List Int)) : Nat → List OL
  | 0 => [[]]
  | r + 1 => (allP n rows r).flatMap (allG n rows r)
structure PreP (n : Nat) (rows : List (List Int)) (r : Nat) (os : OL) : Prop where
  len : os.length = r
  wi : ∀ (i : Nat) (j : Int), os[i]? = some (some j) → ∃ c : Nat, j = c ∧ c < n ∧ 0 < aij rows i c
  nd : ∀ (i k : Nat) (j : Int), os[i]? = some (some j) → os[k]? = some (some j) → i = k
theorem PreP.snoc {n : Nat} {rows : List (List Int)} {r : Nat} {os : OL} (p : PreP n rows r os) {o : Option Int} (h : ∀ j, o = some j → (∃ c : Nat, j = c ∧ c < n ∧ 0 < aij rows r c) ∧ some j ∉ os) : PreP n rows (r + 1) (os ++ [o]) := by
  have cut : ∀ {i : Nat} {j : Int}, (os ++ [o])[i]? = some (some j) → (os[i]? = some (some j)) ∨ (i = r ∧ o = some j) := fun {i j} e => by
    by_cases hi : i < os.length
    · rw [List.getElem?_append_left hi] at e; exact .inl e
    · have h2 := (List.getElem?_eq_some_iff.mp e).1
      rw [List.length_append, List.length_singleton] at h2
      have h3 : i = os.length := by omega
      subst h3
      rw [List.getElem?_append_right (Nat.le_refl _)] at e
      simp at e
      exact .inr ⟨p.len, e⟩
  refine ⟨by simp [p.len], fun i j e => ?_, fun i k j e1 e2 => ?_⟩
  · rcases cut e with e | ⟨rfl, e⟩
    · exact p.wi i j e
    · exact (h j e).1
  · rcases cut e1 with a | ⟨rfl, a⟩
    · rcases cut e2 with b | ⟨rfl, b⟩
      · exact p.nd i k j a b
      · exact absurd (List.mem_of_getElem? a) (h j b).2
    · rcases cut e2 with b | ⟨rfl, b⟩
      · exact absurd (List.mem_of_getElem? b) (h j a).2
      · rfl
theorem allP_ok {n : Nat} {rows : List (List Int)} : ∀ {r : Nat} {os : OL}, os ∈ allP n rows r → PreP n rows r os
  | 0, os, h => by
    rw [List.mem_singleton.mp h]
    exact ⟨rfl, fun i j e => by simp at e, fun i k j e => by simp at e⟩
  | r + 1, os, h => by
    obtain ⟨qs, hq, h⟩ := List.mem_flatMap.mp h
    have p := allP_ok hq
    rcases List.mem_cons.mp h with rfl | h
    · exact p.snoc fun j e => nomatch e
    · obtain ⟨j, hj, e⟩ := List.mem_filterMap.mp h
      split at e
      · rename_i c
        cases e
        rw [Bool.and_eq_true, decide_eq_true_eq, Bool.not_eq_true', decide_eq_false_iff_not] at c
        exact p.snoc fun k e => by cases e; exact ⟨⟨j, rfl, List.mem_range.mp hj, c.1⟩, c.2⟩
      · cases e
theorem allP_all {n : Nat} {m : Int} {rows : List (List Int)} {ps : OL} {ls : List (Int × Int)} (T : Tab n m rows) (g : Gr n rows ps ls) : ∀ r : Nat, r ≤ n → ps.take r ∈ allP n rows r
  | 0, _ => by simp [allP]
  | r + 1, h => by
    have ih := allP_all T g r (by omega)
    have hr : r < ps.length := by rw [g.pair.len]; omega
    rw [allP, List.mem_flatMap]
    refine ⟨_, ih, ?_⟩
    rw [List.take_add_one, List.getElem?_eq_getElem hr]
    cases e : ps[r] with
    | none => simp [allG]
    | some j =>
      have er : ps[r]? = some (some j) := by rw [List.getElem?_eq_getElem hr, e]
      obtain ⟨j0, j1⟩ := g.pair.rng j (List.mem_of_getElem? er)
      obtain ⟨c, rfl⟩ : ∃ c : Nat, j = (c : Int) := ⟨j.toNat, by omega⟩
      refine List.mem_cons_of_mem _ (List.mem_filterMap.mpr ⟨c, List.mem_range.mpr (by omega), ?_⟩)
      have w := g.wi' er
      have p0 := (mem_getD2 T (i := r) (j := c) (by omega) (by omega)).1
      have nm : some (c : Int) ∉ ps.take r := fun z => by
        obtain ⟨k, hk⟩ := List.mem_iff_getElem?.mp z
        have kl := (List.getElem?_eq_some_iff.mp hk).1
        rw [List.length_take] at kl
        rw [List.getElem?_take_of_lt (by omega)] at hk
        have := g.pair.nd k r c hk er
        omega
      rw [decide_eq_true (show 0 < aij rows r c by omega), decide_eq_false nm]
      rfl
theorem allG_len {n : Nat} {rows : List (List Int)} {r : Nat} {os : OL} : (allG n rows r os).length ≤ n + 1 := by
  unfold allG
  have := List.length_filterMap_le (fun (j : Nat) => if decide (0 < aij rows r j) && !decide (some (j : Int) ∈ os) then some (os ++ [some (j : Int)]) else none) (List.range n)
  rw [List.length_range] at this
  simp only [List.length_cons]; omega
theorem flat_len {α β : Type} {f : α → List β} {b : Nat} (h : ∀ x, (f x).length ≤ b) : ∀ l : List α, (l.flatMap f).length ≤ l.length * b
  | [] => by simp
  | x :: l => by
    have := flat_len h l
    have := h x
    rw [List.flatMap_cons, List.length_append, List.length_cons, Nat.add_mul]; omega
theorem allP_len {n : Nat} {rows : List (List Int)} (hn : n ≤ 3) : ∀ r : Nat, r ≤ 3 → (allP n rows r).length ≤ 4 ^ r
  | 0, _ => by simp [allP]
  | r + 1, h => by
    have ih := allP_len (rows := rows) hn r (by omega)
    have := flat_len (b := 4) (fun os => Nat.le_trans (allG_len (n := n) (rows := rows) (r := r) (os := os)) (by omega)) (allP n rows r)
    rw [allP, Nat.pow_succ]
    exact Nat.le_trans this (Nat.mul_le_mul_right 4 ih)
theorem PreP.pair {n : Nat} {rows : List (List Int)} {os : OL} (p : PreP n rows n os) : Pair n os :=
  ⟨p.len, fun j hj => by
    obtain ⟨i, hi⟩ := List.mem_iff_getElem?.mp hj
    obtain ⟨c, rfl, h, _⟩ := p.wi i j hi
    exact ⟨by omega, by omega⟩, p.nd⟩
theorem PreP.wi' {n r : Nat} {rows : List (List Int)} {os : OL} (p : PreP n rows r os) {i j : Nat} (e : os[i]? = some (some (j : Int))) : aij rows i j ≠ 0 := by
  obtain ⟨c, h, _, h2⟩ := p.wi i j e
  have : c = j := by omega
  subst this; omega
/-- the greatest number of cells among all -/
theorem max_all {n : Nat} {m : Int} {rows : List (List Int)} {ps : OL} {ls : List (Int × Int)} (T : Tab n m rows) (g : Gr n rows ps ls) : mxL ((allP n rows n).map fun os => ((cel os).length : Int)) = (ls.length : Int) := by
  refine mxL_of (List.mem_map.mpr ⟨ps, ?_, by rw [g.len]⟩) fun x hx => ?_
  · have := allP_all T g n (Nat.le_refl n)
    rwa [List.take_of_length_le (by rw [g.pair.len]; omega)] at this
  · obtain ⟨os, ho, rfl⟩ := List.mem_map.mp hx
    have p := allP_ok ho
    have := g.most p.pair fun i j e => p.wi' e
    omega
/-! ### a table with one cell otherwise -/
def chg (rows : List (List Int)) (i j : Nat) (x : Int) : List (List Int) := rows.set i ((rows.getD i []).set j x)
theorem chg_aij {n : Nat} {m x : Int} {rows : List (List Int)} (T : Tab n m rows) {i j a b : Nat} (hi : i < n) (hj : j < n) : aij (chg rows i j x) a b = if a = i ∧ b = j then x else aij rows a b := by
  have hl := row_len_ T hi
  have gs : ∀ {l : List (List Int)} {k : Nat} {y : List Int}, k < l.length → (l.set k y).getD a [] = if a = k then y else l.getD a [] := fun {l k y} h => by
    rw [List.getD_eq_getElem?_getD, List.getElem?_set, List.getD_eq_getElem?_getD]
    by_cases e : k = a
    · subst e; rw [if_pos rfl, if_pos h, if_pos rfl]; rfl
    · rw [if_neg e, if_neg (Ne.symm e)]
  have gs2 : ∀ {l : List Int} {k : Nat} {y : Int}, k < l.length → (l.set k y).getD b 0 = if b = k then y else l.getD b 0 := fun {l k y} h => by
    rw [List.getD_eq_getElem?_getD, List.getElem?_set, List.getD_eq_getElem?_getD]
    by_cases e : k = b
    · subst e; rw [if_pos rfl, if_pos h, if_pos rfl]; rfl
    · rw [if_neg e, if_neg (Ne.symm e)]
  unfold aij chg
  rw [gs (by rw [T.len]; exact hi)]
  by_cases e : a = i
  · subst e
    rw [if_pos rfl, gs2 (by rw [hl]; exact hj)]
    by_cases e2 : b = j
    · rw [if_pos e2, if_pos ⟨rfl, e2⟩]
    · rw [if_neg e2, if_neg (fun z => e2 z.2)]
  · rw [if_neg e, if_neg (fun z => e z.1)]
theorem chg_tab {n : Nat} {m x : Int} {rows : List (List Int)} (T : Tab n m rows) {i j : Nat} (hi : i < n) (x0 : 0 ≤ x) (xm : x ≤ m) : Tab n m (chg rows i j x) := by
  have hm : (rows.getD i []) ∈ rows := mem_getD T hi
  refine ⟨T.lo, T.hi, by simp [chg, T.len], fun y hy => ?_, fun y hy c hc => ?_⟩
  · rcases List.mem_or_eq_of_mem_set hy with h | rfl
    · exact T.row y h
    · rw [List.length_set]; exact T.row _ hm
  · rcases List.mem_or_eq_of_mem_set hy with h | rfl
    · exact T.pos y h c hc
    · rcases List.mem_or_eq_of_mem_set hc with h | rfl
      · exact T.pos _ hm c h
      · exact ⟨x0, xm⟩
/-- one wish more -/
theorem one_more {n : Nat} {rows rows' : List (List Int)} {ps ps' : OL} {ls ls' : List (Int × Int)} (g : Gr n rows ps ls) (g' : Gr n rows' ps' ls') (a b : Nat)
    (sub : ∀ i j, i < n → j < n → aij rows i j ≠ 0 → aij rows' i j ≠ 0) (back : ∀ i j, i < n → j < n → aij rows' i j ≠ 0 → aij rows i j ≠ 0 ∨ (i = a ∧ j = b)) : ls.length ≤ ls'.length ∧ ls'.length ≤ ls.length + 1 := by
  constructor
  · rw [g.len]
    exact g'.most g.pair fun i j e => sub i j (g.pair.lt e) (by have := (g.pair.rng _ (List.mem_of_getElem? e)).2; omega) (g.wi' e)
  · rw [g'.len]
    have := cov_le (L := ((0 : Int), (a : Int)) :: ls) g'.pair fun i j e => by
      have hi := g'.pair.lt e
      have hj : j < n := by have := (g'.pair.rng _ (List.mem_of_getElem? e)).2; omega
      rcases back i j hi hj (g'.wi' e) with h | ⟨rfl, _⟩
      · exact (g.cov i j hi hj h).imp (List.mem_cons_of_mem _) (List.mem_cons_of_mem _)
      · exact .inl (by simp)
    simpa using this
end VL

set_option autoImplicit false
/-! VL47: what else is true of waves. -/
namespace VL
open PySem L2
section
variable {n : Nat} {rows rows' : List (List Int)} {b : Int}
theorem wave_first (hn : 0 < n) : ∀ k, k ≤ n → ∀ (a : Nat) (x : Int), (wv n rows b k).getD a none = some x → a < k ∧ x = ((a : Int) + b) % n
  | 0, _, a, x, e => by
    rw [wv_zero, getD_some] at e
    cases List.eq_of_mem_replicate (List.mem_of_getElem? e)
  | k + 1, hk, a, x, e => by
    have ih := wave_first hn k (by omega)
    have hl := wv_len (n := n) (rows := rows) (b := b) k
    rw [wv_at (d := 0) (r := k) (by omega) (by omega)] at e
    split at e
    · rw [getD_set (by omega)] at e
      split at e
      · rename_i e1
        subst e1
        have := Option.some.inj e
        exact ⟨by omega, by rw [← this]; simp⟩
      · have := ih a x e
        exact ⟨by omega, this.2⟩
    · have := ih a x e
      exact ⟨by omega, this.2⟩
theorem wave_diag (hn : 0 < n) {i : Nat} (hi : i < n) (w : aij rows i (((i : Int) + b) % n).toNat ≠ 0) : (waveF n rows b).getD i none = some (((i : Int) + b) % n) := by
  have hl := wv_len (n := n) (rows := rows) (b := b) i
  have st := wv_at (n := n) (rows := rows) (b := b) (d := 0) (r := i) (k := i) hi (by omega)
  have f := wave_first (rows := rows) (b := b) hn i (by omega)
  have e0 : ((i : Int) + b + ((0 : Nat) : Int)) % n = ((i : Int) + b) % n := by simp
  rw [e0] at st
  have c1 : (wv n rows b i).getD i none = none := by
    cases q : (wv n rows b i).getD i none with
    | none => rfl
    | some x => have := (f i x q).1; omega
  have c2 : ¬ some (((i : Int) + b) % n) ∈ wv n rows b i := fun z => by
    obtain ⟨a, ha⟩ := List.mem_iff_getElem?.mp z
    obtain ⟨h1, h2⟩ := f a _ (getD_some.mpr ha)
    have h4 : ((i : Int) + b - (a + b)) % n = 0 := Int.emod_eq_emod_iff_emod_sub_eq_zero.mp h2
    rw [show (i : Int) + b - (a + b) = (i : Int) - a by omega] at h4
    have := Int.emod_eq_of_lt (a := (i : Int) - a) (b := n) (by omega) (by omega)
    omega
  rw [if_pos ⟨w, c1, c2⟩] at st
  obtain ⟨z, hz⟩ : ∃ z, n * n = i + 1 + z := ⟨n * n - (i + 1), by
    have : n ≤ n * n := Nat.le_mul_of_pos_left n hn
    omega⟩
  have : (wv n rows b (i + 1)).getD i none = some (((i : Int) + b) % n) := by rw [st, getD_set (by omega), if_pos rfl]
  have := wv_keep this z
  rw [← hz] at this
  exact this
theorem wv_next {b' : Int} (h : ∀ r d : Nat, ((r : Int) + b' + d) % n = ((r : Int) + b + d) % n) : ∀ k, wv n rows b' k = wv n rows b k
  | 0 => rfl
  | k + 1 => by
    rw [wv_succ, wv_succ, wv_next h k]
    unfold wstep
    rw [h]
theorem wave_round : waveF n rows (b + n) = waveF n rows b := wv_next (fun r d => by
  rw [show (r : Int) + (b + n) + d = (r : Int) + b + d + n by omega, Int.add_emod_right]) _
theorem wv_wish (hn : 0 < n) (h : ∀ i j, i < n → j < n → (aij rows' i j ≠ 0 ↔ aij rows i j ≠ 0)) : ∀ k, wv n rows' b k = wv n rows b k
  | 0 => rfl
  | k + 1 => by
    rw [wv_succ, wv_succ, wv_wish hn h k]
    unfold wstep
    have e0 := Int.emod_nonneg ((((k % n : Nat) : Int) + b + ((k / n : Nat) : Int))) (b := (n : Int)) (by omega)
    have e1 := Int.emod_lt_of_pos ((((k % n : Nat) : Int) + b + ((k / n : Nat) : Int))) (b := (n : Int)) (by omega)
    have := h (k % n) ((((k % n : Nat) : Int) + b + ((k / n : Nat) : Int)) % n).toNat (Nat.mod_lt _ hn) (by omega)
    simp only [this]
def w1 (c : Int) : Int := if decide (c > 0) = true then 1 else 0
def wishT (rows : List (List Int)) : List (List Int) := rows.map fun x => x.map w1
theorem wish_tab {m : Int} (T : Tab n m rows) : Tab n 1 (wishT rows) := by
  refine ⟨T.lo, T.hi, by simp [wishT, T.len], fun x hx => ?_, fun x hx c hc => ?_⟩
  · obtain ⟨y, hy, rfl⟩ := List.mem_map.mp hx
    rw [List.length_map]; exact T.row y hy
  · obtain ⟨y, hy, rfl⟩ := List.mem_map.mp hx
    obtain ⟨z, _, rfl⟩ := List.mem_map.mp hc
    unfold w1
    split <;> omega
theorem wish_aij {m : Int} (T : Tab n m rows) {i j : Nat} (hi : i < n) (hj : j < n) : aij (wishT rows) i j = w1 (aij rows i j) := by
  have hl := row_len_ T hi
  have h1 : i < rows.length := by rw [T.len]; exact hi
  unfold aij wishT at *
  rw [List.getD_eq_getElem?_getD, List.getD_eq_getElem?_getD, List.getElem?_map, List.getElem?_eq_getElem h1]
  rw [List.getD_eq_getElem?_getD, List.getElem?_eq_getElem h1] at hl
  simp only [Option.map_some, Option.getD_some] at hl ⊢
  rw [List.getElem?_map, List.getElem?_eq_getElem (by omega), List.getD_eq_getElem?_getD, List.getD_eq_getElem?_getD, List.getElem?_eq_getElem h1]
  simp only [Option.map_some, Option.getD_some]
  rw [List.getElem?_eq_getElem (by omega)]; rfl
theorem wave_wish {m : Int} (T : Tab n m rows) : waveF n (wishT rows) b = waveF n rows b := wv_wish (by have := T.lo; omega) (fun i j hi hj => by
  rw [wish_aij T hi hj]
  have := (mem_getD2 T hi hj).1
  unfold w1
  by_cases c : aij rows i j > 0
  · rw [decide_eq_true c]; simp; omega
  · rw [decide_eq_false c]; simp; omega) _
/-- a pairing with one place otherwise -/
theorem set_get {os : OL} {i a : Nat} {o : Option Int} (h : i < os.length) : (os.set i o)[a]? = if a = i then some o else os[a]? := by
  rw [List.getElem?_set]
  by_cases e : i = a
  · subst e; rw [if_pos rfl, if_pos h, if_pos rfl]
  · rw [if_neg e, if_neg (Ne.symm e)]
theorem Pair.set {os : OL} (P : Pair n os) {i : Nat} (hi : i < n) {o : Option Int} (h : ∀ j, o = some j → (0 ≤ j ∧ j < n) ∧ ¬ some j ∈ os) : Pair n (os.set i o) := by
  have hl : i < os.length := by rw [P.len]; exact hi
  refine ⟨by rw [List.length_set]; exact P.len, fun j hj => ?_, fun a c j e1 e2 => ?_⟩
  · rcases List.mem_or_eq_of_mem_set hj with z | z
    · exact P.rng j z
    · exact (h j z.symm).1
  · rw [set_get hl] at e1 e2
    split at e1
    · rename_i x1
      split at e2
      · rename_i x2; rw [x1, x2]
      · exact absurd (List.mem_of_getElem? e2) (h j (Option.some.inj e1)).2
    · split at e2
      · exact absurd (List.mem_of_getElem? e1) (h j (Option.some.inj e2)).2
      · exact P.nd a c j e1 e2
/-- with one cell fewer it isn't full -/
theorem less_full {os : OL} (n2 : 2 ≤ n) (n6 : n ≤ 6) (P : Pair n os) (w : WithinP n rows os) {i : Nat} (hi : i < n) {j : Int} (e : os[i]? = some (some j)) : fullB n rows (.tup ((os.set i none).map ov)) = false := by
  have hl : i < os.length := by rw [P.len]; exact hi
  have P' := P.set hi (o := none) (fun _ z => nomatch z)
  cases q : fullB n rows (.tup ((os.set i none).map ov)) with
  | false => rfl
  | true =>
    obtain ⟨_, f⟩ := (fullB_iff n2 n6 P').mp q
    obtain ⟨j0, j1⟩ := P.rng j (List.mem_of_getElem? e)
    obtain ⟨c, rfl⟩ : ∃ c : Nat, j = (c : Int) := ⟨j.toNat, by omega⟩
    rcases f i c hi (by omega) (w i c hi (by omega) (getD_some.mpr e)) with z | z
    · rw [List.getD_eq_getElem?_getD, set_get hl, if_pos rfl] at z; cases z
    · obtain ⟨a, ha⟩ := List.mem_iff_getElem?.mp z
      rw [set_get hl] at ha
      split at ha
      · cases ha
      · rename_i ne; exact absurd (P.nd a i _ ha e) ne
/-- with one more it isn't within -/
theorem more_within {os : OL} (n2 : 2 ≤ n) (n6 : n ≤ 6) (P : Pair n os) (f : FullP n rows os) {i j : Nat} (hi : i < n) (hj : j < n) (e : os.getD i none = none) (nj : ¬ some (j : Int) ∈ os) : withinB n rows (.tup ((os.set i (some (j : Int))).map ov)) = false := by
  have hl : i < os.length := by rw [P.len]; exact hi
  have P' := P.set hi (o := some (j : Int)) (fun k z => by cases z; exact ⟨⟨by omega, by omega⟩, nj⟩)
  cases q : withinB n rows (.tup ((os.set i (some (j : Int))).map ov)) with
  | false => rfl
  | true =>
    have w := (withinB_iff n2 n6 P').mp q
    have := w i j hi hj (getD_some.mpr (by rw [set_get hl, if_pos rfl]))
    rcases f i j hi hj this with z | z
    · rw [e] at z; cases z
    · exact absurd z nj
/-- at least half as many cells as a greatest one, and no more -/
theorem half_most {ps os : OL} {ls : List (Int × Int)} (g : Gr n rows ps ls) (P : Pair n os) (w : WithinP n rows os) (f : FullP n rows os) : (cel ps).length ≤ 2 * (cel os).length ∧ (cel os).length ≤ (cel ps).length := by
  constructor
  · have := cov_le (L := ((cel os).map fun p => ((0 : Int), (p.1 : Int))) ++ ((cel os).map fun p => ((1 : Int), p.2))) g.pair fun i j e => by
      have hi := g.pair.lt e
      have hj : j < n := by have := (g.pair.rng _ (List.mem_of_getElem? e)).2; omega
      rcases f i j hi hj (g.wi' e) with z | z
      · obtain ⟨x, hx⟩ := Option.isSome_iff_exists.mp z
        exact .inl (List.mem_append.mpr (.inl (List.mem_map.mpr ⟨(i, x), mem_cel.mpr (getD_some.mp hx), rfl⟩)))
      · obtain ⟨a, ha⟩ := List.mem_iff_getElem?.mp z
        exact .inr (List.mem_append.mpr (.inr (List.mem_map.mpr ⟨(a, (j : Int)), mem_cel.mpr ha, rfl⟩)))
    rw [List.length_append, List.length_map, List.length_map] at this
    omega
  · rw [← g.len]
    exact g.most P fun i j e => w i j (P.lt e) (by have := (P.rng _ (List.mem_of_getElem? e)).2; omega) (getD_some.mpr e)
end
theorem set_cutO {l : OL} {j : Nat} {x : Option Int} (h : j < l.length) : (l.take j).map ov ++ [ov x] ++ (l.drop (j + 1)).map ov = (l.set j x).map ov := by
  rw [List.set_eq_take_append_cons_drop, if_pos h]; simp
end VL

set_option autoImplicit false
/-! VL48: pairs compared, pairs in lists. -/
namespace VL
open PySem L2 PySem.Spec PyProof.Rows
abbrev pLt (p q : Int × Int) : Prop := p.1 < q.1 ∨ (p.1 = q.1 ∧ p.2 < q.2)
section
variable {X : Cx}
/-- two whole numbers, as they stand -/
theorem vals_two {us : List Value} {c d : Int} (r : Vals [V.int c, V.int d] us) : ∃ i j, us = [.int c i, .int d j] := by
  match us, r with
  | [_, _], .cons ⟨i, e⟩ (.cons ⟨j, f⟩ .nil) => exact ⟨i, j, by rw [e, f]⟩
def rGeP (K : PySem.W.Frag) : R2 := fun x y H Q => ∃ (a b : Addr) (p q : Int × Int), x = .ref a ∧ y = .ref b ∧ SqT K H a [.int p.1, .int p.2] ∧ SqT K H b [.int q.1, .int q.2] ∧ Q (.bl (!decide (pLt p q))) H
theorem op_geP (hu : X.A.units < cLine) : OpR X (compareOp .GtE) (rGeP X.K) := by
  rintro pins s σ H _ _ v u Q I rx ry ⟨a, b, p, q, rfl, rfl, ha, hb, k⟩
  cases rx; cases ry
  obtain ⟨us, r1, t1, _⟩ := I.tuple ha
  obtain ⟨ws, r2, t2, _⟩ := I.tuple hb
  obtain ⟨i1, j1, rfl⟩ := vals_two r1
  obtain ⟨i2, j2, rfl⟩ := vals_two r2
  have G := Ob.RcOp.tuples_ge (A := X.A) (e := fun j => if j = 0 then p.1 == q.1 else p.2 == q.2) (r := fun j => if j = 0 then decide (q.1 ≤ p.1) else decide (q.2 ≤ p.2)) t1 t2 hu
    (fun j h1 h2 => match j, h1, h2 with
      | 0, _, _ => SeqAt.EqAt.int_int _ _ _ _
      | 1, _, _ => SeqAt.EqAt.int_int _ _ _ _)
    (fun j h1 h2 _ => match j, h1, h2 with
      | 0, _, _ => Ob.RcOp.ge_int _ _ _ _
      | 1, _, _ => Ob.RcOp.ge_int _ _ _ _)
  have e : (if (p.1 == q.1) = true then (if (p.2 == q.2) = true then true else decide (q.2 ≤ p.2)) else decide (q.1 ≤ p.1)) = !decide (pLt p q) := by
    by_cases c1 : p.1 = q.1
    · rw [if_pos (beq_iff_eq.mpr c1)]
      by_cases c2 : p.2 = q.2
      · rw [if_pos (beq_iff_eq.mpr c2), decide_eq_false (show ¬ pLt p q by unfold pLt; omega)]; rfl
      · rw [if_neg (by simpa using c2)]
        by_cases c3 : q.2 ≤ p.2
        · rw [decide_eq_true c3, decide_eq_false (show ¬ pLt p q by unfold pLt; omega)]; rfl
        · rw [decide_eq_false c3, decide_eq_true (show pLt p q by unfold pLt; omega)]; rfl
    · rw [if_neg (by simpa using c1)]
      by_cases c3 : q.1 ≤ p.1
      · rw [decide_eq_true c3, decide_eq_false (show ¬ pLt p q by unfold pLt; omega)]; rfl
      · rw [decide_eq_false c3, decide_eq_true (show pLt p q by unfold pLt; omega)]; rfl
  have last : EP X pins σ Q (.bool (if (p.1 == q.1) = true then (if (p.2 == q.2) = true then true else decide (q.2 ≤ p.2)) else decide (q.1 ≤ p.1))) s := ⟨.bl _, H, I, rfl, by rw [e]; exact k⟩
  exact (show wpAny (model X.prog X.w) X.A (compareOp .GtE (.ref a) (.ref b)) (EP X pins σ Q) X.xe s from G X.prog X.w X.xe (EP X pins σ Q) last)
theorem pv_sq {K : PySem.W.Frag} {m : List Addr} {H : Hp} {p : Int × Int} {y : V} (r : RelT K m H (pv p) y) : ∃ t, y = .ref t ∧ SqT K H t ([p.1, p.2].map V.int) := by
  obtain ⟨t, ys, e1, e2, e3⟩ := RelT.tup_raw r
  have : ys = [p.1, p.2].map V.int := e3.ints (ns := [p.1, p.2])
  subst this
  exact ⟨t, e1, .of e2⟩
/-- < and >= of pairs -/
def goLtP : GO := fun x y h Q => ∃ p q : Int × Int, x = .val (pv p) ∧ y = .val (pv q) ∧ Q (.val (.bl (decide (pLt p q)))) h
def goGeP : GO := fun x y h Q => ∃ p q : Int × Int, x = .val (pv p) ∧ y = .val (pv q) ∧ Q (.val (.bl (!decide (pLt p q)))) h
theorem mo_ltP (hu : X.A.units < cLine) : MO X (compareOp .Lt) goLtP := by
  refine ⟨_, op_ltT hu, fun m h H x y rx ry QV Q rh r1 r2 q k => ?_⟩
  obtain ⟨p, r, rfl, rfl, q⟩ := q
  obtain ⟨a, rfl, s1⟩ := pv_sq r1
  obtain ⟨b, rfl, s2⟩ := pv_sq r2
  refine ⟨a, b, _, _, rfl, rfl, s1, s2, ?_⟩
  have e : HT.lexLt [p.1, p.2] [r.1, r.2] = decide (pLt p r) := by
    rw [HT.lexLt_cons, HT.lexLt_cons, HT.lexLt_nil_nil]
    by_cases c : p.1 = r.1
    · rw [if_pos c]
      by_cases c2 : p.2 = r.2
      · rw [if_pos c2, eq_comm, decide_eq_false_iff_not]; unfold pLt; omega
      · rw [if_neg c2]
        by_cases c3 : p.2 < r.2
        · rw [decide_eq_true c3, decide_eq_true]; exact .inr ⟨c, c3⟩
        · rw [decide_eq_false c3, decide_eq_false]; unfold pLt; omega
    · rw [if_neg c]
      by_cases c3 : p.1 < r.1
      · rw [decide_eq_true c3, decide_eq_true]; exact .inl c3
      · rw [decide_eq_false c3, decide_eq_false]; unfold pLt; omega
  rw [e]
  exact k m H h _ _ (.val rh .bl) q
theorem mo_geP (hu : X.A.units < cLine) : MO X (compareOp .GtE) goGeP := by
  refine ⟨_, op_geP hu, fun m h H x y rx ry QV Q rh r1 r2 q k => ?_⟩
  obtain ⟨p, r, rfl, rfl, q⟩ := q
  obtain ⟨a, rfl, s1⟩ := pv_sq r1
  obtain ⟨b, rfl, s2⟩ := pv_sq r2
  exact ⟨a, b, p, r, rfl, rfl, s1, s2, k m H h _ _ (.val rh .bl) q⟩
variable {h : VH} {Q : R → VH → Prop}
theorem t_ltP {p q : Int × Int} (k : Q (.val (.bl (decide (pLt p q)))) h) : goLtP (.val (pv p)) (.val (pv q)) h Q := ⟨p, q, rfl, rfl, k⟩
theorem t_geP {p q : Int × Int} (k : Q (.val (.bl (!decide (pLt p q)))) h) : goGeP (.val (pv p)) (.val (pv q)) h Q := ⟨p, q, rfl, rfl, k⟩
theorem t_ksL {n : Nat} {xs : List VV} {lo hi : Option Int} (e : h[n]? = some (.lst xs)) (q : Q (.new (.lst (cutVV xs lo hi))) h) : kSl Q (.val (.ref n)) lo hi h := by
  unfold kSl
  dsimp only
  rw [show lstOf h (.val (.ref n)) = some xs by unfold lstOf; simp only [e]]
  exact q
theorem eqv_pq {p q : Int × Int} : PyData.eqv (.tuple [.int p.1, .int p.2]) (.tuple [.int q.1, .int q.2]) = decide (p = q) := by
  rw [eqv_tup]
  simp only [PyData.eqvAll, eqv_int, Bool.and_true]
  by_cases c : p = q
  · subst c; simp
  · rw [decide_eq_false c]
    have : ¬ (p.1 = q.1 ∧ p.2 = q.2) := fun ⟨a, b⟩ => c (Prod.ext a b)
    by_cases c1 : p.1 = q.1
    · have c2 : ¬ p.2 = q.2 := fun z => this ⟨c1, z⟩
      simp [c2]
    · simp [c1]
theorem inB_pv {k : Nat} {ls : List (Int × Int)} {p : Int × Int} (e : h[k]? = some (.lst (ls.map pv))) : inB h (.val (pv p)) (.val (.ref k)) = some (decide (p ∈ ls)) := by
  have o1 : optAll (dV 19 h) (ls.map pv) = some (ls.map pD) := optAll_pv (f := 17) ls
  have o2 : dR h (.val (pv p)) = some (pD p) := by
    have := optAll_pv (f := 18) (h := h) [p]
    simp only [List.map_cons, List.map_nil, optAll] at this
    show dV 20 h (pv p) = _
    cases q : dV 20 h (pv p) with
    | none => rw [q] at this; cases this
    | some d => rw [q] at this; cases this; rfl
  rw [inB_list e o1 o2]
  congr 1
  rw [List.any_map]
  induction ls with
  | nil => rfl
  | cons l ls ih =>
    have e' : h[k]? = h[k]? := rfl
    rw [List.any_cons]
    have step : (ls.any ((fun z => PyData.eqv z (pD p)) ∘ pD)) = decide (p ∈ ls) := by
      clear ih e o1 o2 e'
      induction ls with
      | nil => rfl
      | cons a ls ih =>
        rw [List.any_cons, ih]
        show (PyData.eqv (pD a) (pD p) || _) = _
        rw [show PyData.eqv (pD a) (pD p) = decide (a = p) from eqv_pq]
        simp [eq_comm]
    rw [step]
    show (PyData.eqv (pD l) (pD p) || _) = _
    rw [show PyData.eqv (pD l) (pD p) = decide (l = p) from eqv_pq]
    simp [eq_comm]
theorem atI_pv0 (p : Int × Int) : atI [VV.int p.1, VV.int p.2] 0 = some (.int p.1) := rfl
theorem atI_pv1 (p : Int × Int) : atI [VV.int p.1, VV.int p.2] 1 = some (.int p.2) := rfl
end
end VL

set_option autoImplicit false
/-! VL49: greatest pairings of tables turned about. -/
namespace VL
open PySem L2
section
variable {n : Nat} {m : Int} {rows rows' : List (List Int)} {ps ps2 : OL} {ls ls2 : List (Int × Int)}
theorem turned_aij {i j : Nat} (hi : i < n) (hj : j < n) : aij (turned n rows) i j = aij rows j i := by
  unfold turned
  show (((List.range n).map fun j => (List.range n).map fun i => aij rows i j).getD i []).getD j 0 = _
  rw [range_get (fun j => (List.range n).map fun i => aij rows i j) [] hi, range_get (fun k => aij rows k i) 0 hj]
theorem rng_cell {os : OL} (P : Pair n os) {i j : Nat} (e : os[i]? = some (some (j : Int))) : i < n ∧ j < n := ⟨P.lt e, by have := (P.rng _ (List.mem_of_getElem? e)).2; omega⟩
/-- lines of one that serve the other -/
theorem gr_le (g : Gr n rows ps ls) (g2 : Gr n rows' ps2 ls2) (f : Int × Int → Int × Int)
    (h : ∀ i j : Nat, i < n → j < n → aij rows' i j ≠ 0 → ∃ l ∈ ls, f l = ((0 : Int), (i : Int)) ∨ f l = ((1 : Int), (j : Int))) : ls2.length ≤ ls.length := by
  rw [g2.len]
  have := cov_le (L := ls.map f) g2.pair fun i j e => by
    obtain ⟨hi, hj⟩ := rng_cell g2.pair e
    obtain ⟨l, hl, z | z⟩ := h i j hi hj (g2.wi' e)
    · exact .inl (List.mem_map.mpr ⟨l, hl, z⟩)
    · exact .inr (List.mem_map.mpr ⟨l, hl, z⟩)
  simpa using this
theorem gr_turned (g : Gr n rows ps ls) (g2 : Gr n (turned n rows) ps2 ls2) : ls2.length = ls.length := by
  have a := gr_le g g2 (fun l => (1 - l.1, l.2)) fun i j hi hj w => by
    rw [turned_aij hi hj] at w
    rcases g.cov j i hj hi w with z | z
    · exact ⟨_, z, .inr rfl⟩
    · exact ⟨_, z, .inl rfl⟩
  have b := gr_le g2 g (fun l => (1 - l.1, l.2)) fun i j hi hj w => by
    rw [← turned_aij hj hi] at w
    rcases g2.cov j i hj hi w with z | z
    · exact ⟨_, z, .inr rfl⟩
    · exact ⟨_, z, .inl rfl⟩
  omega
/-- rows in another order: row i is row p i of the first; q goes back -/
theorem gr_rows (g : Gr n rows ps ls) (g2 : Gr n rows' ps2 ls2) (p q : Nat → Nat) (hp : ∀ i, i < n → p i < n ∧ q (p i) = i) (hq : ∀ i, i < n → q i < n ∧ p (q i) = i) (h : ∀ i j, i < n → j < n → aij rows' i j = aij rows (p i) j) : ls2.length = ls.length := by
  have a := gr_le g g2 (fun l => if l.1 = 0 then (0, ((q l.2.toNat : Nat) : Int)) else l) fun i j hi hj w => by
    rw [h i j hi hj] at w
    rcases g.cov (p i) j (hp i hi).1 hj w with z | z
    · exact ⟨_, z, .inl (by simp [(hp i hi).2])⟩
    · exact ⟨_, z, .inr (by simp)⟩
  have b := gr_le g2 g (fun l => if l.1 = 0 then (0, ((p l.2.toNat : Nat) : Int)) else l) fun i j hi hj w => by
    have e := h (q i) j (hq i hi).1 hj
    rw [(hq i hi).2] at e
    rw [← e] at w
    rcases g2.cov (q i) j (hq i hi).1 hj w with z | z
    · exact ⟨_, z, .inl (by simp [(hq i hi).2])⟩
    · exact ⟨_, z, .inr (by simp)⟩
  omega
theorem round_aij (T : Tab n m rows) {a i j : Nat} (ha : a ≤ n) (hi : i < n) : aij (rows.drop a ++ rows.take a) i j = aij rows (if i < n - a then a + i else i - (n - a)) j := by
  have hl := T.len
  unfold aij
  congr 1
  rw [List.getD_eq_getElem?_getD, List.getD_eq_getElem?_getD, List.getElem?_append, List.length_drop, hl]
  split
  · rw [List.getElem?_drop]
  · rw [List.getElem?_take_of_lt (by omega)]
theorem round_tab (T : Tab n m rows) {a : Nat} (ha : a ≤ n) : Tab n m (rows.drop a ++ rows.take a) := by
  have mem : ∀ {x}, x ∈ rows.drop a ++ rows.take a → x ∈ rows := fun h => (List.mem_append.mp h).elim (List.mem_of_mem_drop) (List.mem_of_mem_take)
  exact ⟨T.lo, T.hi, by rw [List.length_append, List.length_drop, List.length_take, T.len]; omega, fun x hx => T.row x (mem hx), fun x hx => T.pos x (mem hx)⟩
theorem gr_round (T : Tab n m rows) {a : Nat} (ha : a < n) (g : Gr n rows ps ls) (g2 : Gr n (rows.drop a ++ rows.take a) ps2 ls2) : ls2.length = ls.length := by
  refine gr_rows g g2 (fun i => if i < n - a then a + i else i - (n - a)) (fun i => if i < a then i + (n - a) else i - a) (fun i hi => ?_) (fun i hi => ?_) fun i j hi hj => round_aij T (by omega) hi
  · split
    · exact ⟨by omega, by rw [if_neg (by omega)]; omega⟩
    · exact ⟨by omega, by rw [if_pos (by omega)]; omega⟩
  · split
    · exact ⟨by omega, by rw [if_neg (by omega)]; omega⟩
    · exact ⟨by omega, by rw [if_pos (by omega)]; omega⟩
theorem gr_same' (g : Gr n rows ps ls) (g2 : Gr n rows ps2 ls2) : ls2.length = ls.length := by
  have a := gr_le g g2 id fun i j hi hj w => (g.cov i j hi hj w).elim (fun z => ⟨_, z, .inl rfl⟩) (fun z => ⟨_, z, .inr rfl⟩)
  have b := gr_le g2 g id fun i j hi hj w => (g2.cov i j hi hj w).elim (fun z => ⟨_, z, .inl rfl⟩) (fun z => ⟨_, z, .inr rfl⟩)
  omega
end
end VL

set_option autoImplicit false
/-! VL50: defs that are called where no repr is under way; repr of anything. -/
namespace VL
open PySem L2 PySem.Spec PyProof.Rows
/-- a def's promise, where no repr is under way -/
structure FnG (P : Program) (w : World) (K : PySem.W.Frag) (mg : Str → Option Value) (base : Heap) (k : Nat) (f : Addr) (fd : FuncData) (ps : List Str) (sp : Sp) : Prop where
  len : ∀ vs H Q E, sp vs H Q E → vs.length = ps.length
  run : ∀ (A : Around) (outer : List PySem.Env) (s : Shared) (H : Hp) (args : Args) (us : List Value) (vs : List V) (Q : VK) (E : XK), A.guards = some [] → Room k A → Env0 P w K mg base A outer s H → BindsTo s fd args (ps.zip us) → Vals vs us → sp vs H Q E →
    codeAny (model P w) A (.call (.ref f) args) (CR L2.CX0 outer P w H s Q E) s
theorem FnG.mono {P : Program} {w : World} {K : PySem.W.Frag} {mg : Str → Option Value} {base : Heap} {j k : Nat} {f : Addr} {fd : FuncData} {ps : List Str} {sp : Sp} (F : FnG P w K mg base j f fd ps sp) (h : j ≤ k) : FnG P w K mg base k f fd ps sp :=
  ⟨F.len, fun A outer s H args us vs Q E hg hr => F.run A outer s H args us vs Q E hg (hr.mono h)⟩
section
variable {P : Program} {w : World} {K : PySem.W.Frag} {mg : Str → Option Value} {base : Heap}
/-- such a def by its body -/
theorem fnG_of {x qual : Str} {st : Stmt} {f : Addr} {fd : FuncData} {N ps : List Str} {k : Nat} {sp : Sp} (F : Fun K x qual st f fd) (S : FnScope N ps (defScope st)) (len : ∀ vs H Q E, sp vs H Q E → vs.length = ps.length)
    (hbody : ∀ (cdv : Value) (A : Around) (outer : List PySem.Env) (s : Shared) (H : Hp) (vs : List V) (Q : VK) (E : XK), Room k (A.deeper (envOfC qual (defScope st) s.heap.objs.size f cdv)) → A.guards = some [] → sp vs H Q E →
      ∃ t, PSs (cxOf L2.CX0 P w K mg base N qual (defScope st) f cdv A outer s H E).nox (defBody st) t ∧ t { nx := fun _ H' => Q .non H', rt := Q } (L2.start N vs) H) : FnG P w K mg base (k + 1) f fd ps sp := by
  obtain ⟨oc, od, kV, doc, pm, an, cdv, ct, osl, rfl, lk, hcd⟩ := F.ex
  constructor
  · exact len
  intro A outer s H args us vs Q E hg hr e0 hb r hsp
  have inH : K.In s.heap := e0.mod.kin.keeps fun b o e => (e0.bs b o e).1
  have seen : ∀ y ∈ ps.zip us, (defScope st).names.lookup y.1 = some .local ∨ ((defScope st).names.lookup y.1 = some .cell ∧ ((cellsFrom (s.heap.objs.size + 1) (defScope st).names []).lookup y.1).isSome = true) := by
    rintro ⟨n, v⟩ hy
    exact (S.par n (List.of_mem_zip hy).1).imp id fun q => ⟨q, PySem.W.cellsFrom_some _ _ _ (.inl q)⟩
  refine codeAny_call_function hr.depth (inH _ _ lk) rfl S.co S.gen rfl (PySem.W.codeRec_of inH hcd) (hb _ _ _ _ (wpAny_newFunctionEnv_cells S.kind seen ?_))
  rintro env rfl s1 x
  refine ⟨(e0.mod.nolimit.keeps fun b o e => (e0.bs b o e).1).keeps x.toInCall.keep, codeAny_func ?_⟩
  obtain ⟨t, ht, hq⟩ := hbody cdv A outer s H vs Q E (hr.deeper _) hg hsp
  refine wpAny_mono (ht.nox.run [] s1 (L2.start N vs) H _ (inv_start S hr.hd e0 (len _ _ _ _ hsp) r x) hq) (fun fl s' hs => ?_) fun _ _ hs => hs
  match fl, hs with
  | .ret u, ⟨v, σ', H', J, rv, q⟩ => exact ⟨v, H', J.os, J.bare, J.base, J.hok, rv, q⟩
  | .next, ⟨σ', H', J, q⟩ => exact ⟨.non, H', J.os, J.bare, J.base, J.hok, rfl, q⟩
  | .brk, ⟨_, _, _, q⟩ => exact q.elim
  | .cont, ⟨_, _, _, q⟩ => exact q.elim
theorem def_okG {x qual : Str} {st : Stmt} {f : Addr} {fd : FuncData} {N ps : List Str} {k : Nat} {S : GC} {g : GS} (F : Fun K x qual st f fd) (sc : FnScope N ps (defScope st))
    (hb : ∀ (cdv : Value) (A : Around) (outer : List PySem.Env) (s : Shared) (H : Hp) (E : XK), Room k (A.deeper (envOfC qual (defScope st) s.heap.objs.size f cdv)) → A.guards = some [] → MB (cxOf L2.CX0 P w K mg base N qual (defScope st) f cdv A outer s H E).nox (defBody st) g)
    (hg : ∀ (as : List VV) (h : VH) (QV : R → VH → Prop), as.length = ps.length → S as h QV → g { nx := fun _ h' => fin h.length QV (.val .non) h', rt := fin h.length QV } (ini N.length as) h) :
    FnG P w K mg base (k + 1) f fd ps (spOf K ps.length S) := by
  refine fnG_of F sc (fun vs H Q E ⟨_, _, _, _, _, r, l, _⟩ => by rw [← r.len, l]) ?_
  rintro cdv A outer s H vs Q E hr gd ⟨m, h, as, QV, rh, r, l, hs, k⟩
  obtain ⟨t, t1, t2⟩ := (hb cdv A outer s H E hr gd).ex
  refine ⟨t, t1, t2 m h H (ini N.length as) (L2.start N vs) _ _ rh (RE.ini r) (hg as h QV l hs) ⟨fun m1 H1 h1 ρ1 σ1 e1 r1 _ q => ?_, fun m1 H1 h1 r x p q => ?_, fun _ _ _ _ _ _ _ _ q => q.elim, fun _ _ _ _ _ _ _ _ q => q.elim, fun _ _ _ _ _ _ _ _ _ _ _ _ _ q => q.elim⟩⟩
  · obtain ⟨r2, h2, f, q2⟩ := q
    obtain ⟨m2, p2⟩ := fin_ok f rh.len (⟨e1, r1, .non, fun _ _ z => nomatch z⟩ : Pst K m H m1 H1 h1 (.val .non) .non)
    exact k m2 H1 h2 r2 .non p2 q2
  · obtain ⟨r2, h2, f, q2⟩ := q
    obtain ⟨m2, p2⟩ := fin_ok f rh.len p
    exact k m2 H1 h2 r2 x p2 q2
end
/-! ### calls of such defs -/
section
variable {X : Cx}
theorem pe_callG {k : Nat} {f : Addr} {fd : FuncData} {ps : List Str} {sp : Sp} {x : Str} {p pos : Pos} {e : Expr} {es : List Expr} {t : TA} (F : FnG X.prog X.w X.K X.mg X.base k f fd ps sp) (gd : X.A.guards = some []) (hr : Room k X.A) (hg : Gl X x) (hm : X.mg x = some (.ref f)) (hk : PySem.W.keepIn X.K (.ref f) = true) (hb : Binds X.K fd ps [])
    (ha : PA X (e :: es) t) (hdb : (x == ("__debug__" : Str)) = false) (he : starEach (e :: es) X.env = (false, eval e X.env) :: starEach es X.env) (hpl : (backTo pos (starEach es X.env)).any (·.1) = false) :
    PE X (.Call (.Name x p) (e :: es) [] pos) (fun σ H Q => t σ H fun vs H1 => sp vs H1 Q L2.E0) := by
  constructor
  intro pins s σ H Q I h
  refine wpAny_Call_Name_kw (ld_glob I hg hm (PySem.W.callWith_K (h₀ := X.base) I.ok.mod.kin hk (thn (ha.run pos pins s σ H _ I h) ?_) he hpl) hdb)
  rintro us s1 ⟨vs, H1, I1, r, q⟩
  have hl := (r.length.symm.trans (F.len _ _ _ _ q))
  refine ⟨I1.kIn, wpAny_call (codeAny_mono (F.run X.A X.stack s1 H1 ⟨us, []⟩ us vs Q L2.E0 gd hr I1.env0 (by have := hb s1 us I1.kIn (by simpa using hl); simpa using this) r q) fun z s' hq => ?_)⟩
  match z, hq with
  | .error _, hq => exact False.elim hq
  | .ok (.ret u), hq => exact I1.after hq
  | .ok .next, hq => exact False.elim hq
  | .ok .brk, hq => exact False.elim hq
  | .ok .cont, hq => exact False.elim hq
theorem mcallG {n k : Nat} {f : Addr} {fd : FuncData} {ps : List Str} {S : GC} {x : Str} {p pos : Pos} {a : Expr} {es : List Expr} {gr : GA} (F : FnG X.prog X.w X.K X.mg X.base k f fd ps (spOf X.K ps.length S)) (gd : X.A.guards = some []) (hr : Room k X.A) (hm : X.mg x = some (.ref f)) (hk : PySem.W.keepIn X.K (.ref f) = true) (hb : Binds X.K fd ps [])
    (ha : MA X (a :: es) gr) (hl : ps.length = n := by rfl) (hg : Gl X x := by rfl) (hd : (x == ("__debug__" : Str)) = false := by decide) (hs : starEach (a :: es) X.env = (false, eval a X.env) :: starEach es X.env := by rfl) (hs2 : (backTo pos (starEach es X.env)).any (·.1) = false := by rfl) :
    MX X (.Call (.Name x p) (a :: es) [] pos) (gCallD n S gr) := by
  subst hl
  obtain ⟨t, a1, a2⟩ := ha.ex
  refine ⟨_, pe_callG F gd hr hg hm hk hb a1 hd hs hs2, fun m h H ρ σ QV Q rh re hg k => a2 m h H ρ σ _ _ rh re hg fun m1 H1 h1 vs xs e1 r1 t1 q => ?_⟩
  exact ⟨m1, h1, vs, QV, r1, t1, q.1, q.2, fun m2 H2 h2 r z p q => k m2 H2 h2 r z (p.from_ e1 r1) q⟩
/-! ### repr -/
mutual
theorem dp_nodict {K : PySem.W.Frag} {H : Hp} : ∀ (d : PyData) {v : V}, Dp K H v d → d.hasDict = false
  | .none, _, _ => rfl
  | .bool _, _, _ => rfl
  | .int _, _, _ => rfl
  | .str _, _, _ => rfl
  | .list ds, _, h => by cases h with | lst _ a => exact dpAll_nodict ds a
  | .tuple ds, _, h => by cases h with | tup _ a => exact dpAll_nodict ds a
  | .dict _, _, h => by cases h
theorem dpAll_nodict {K : PySem.W.Frag} {H : Hp} : ∀ (ds : List PyData) {vs : List V}, DpAll K H vs ds → PyData.hasDictAll ds = false
  | [], _, _ => rfl
  | d :: ds, _, h => by cases h with | cons a b => unfold PyData.hasDictAll; rw [dp_nodict d a, dpAll_nodict ds b]; rfl
end
def rRepr (K : PySem.W.Frag) : List V → Hp → VK → Prop := fun xs H Q => ∃ v d, xs = [v] ∧ Dp K H v d ∧ d.showable = true ∧ d.depth ≤ 64 ∧ d.shown.length ≤ sizeLine ∧ Q (.str d.shown) H
theorem cr_repr (gd : X.A.guards = some []) (hu : X.A.units + 65 < cLine) : CallR X (.builtin "repr") (rRepr X.K) := by
  rintro pins s σ H xs us Q I r ⟨v, d, rfl, hd, hs, hp, hz, q⟩
  obtain ⟨u, rfl, rv⟩ := vals1 r
  have key : ∀ tk, EP X pins σ Q (.str d.shown tk) { s with toks := s.toks + 1 } := fun tk => ⟨.str _, H, I.tok _, ⟨_, rfl⟩, q⟩
  cases v with
  | ref a =>
    cases rv
    obtain ⟨as, rd⟩ := Dp.reads I d _ _ hd rfl
    refine repr_of_reads' rd hs (fun e => by rw [dp_nodict d hd] at e; cases e) gd (by omega) (fun _ _ e => e) (fun h' t tk hk => ⟨.str _, H, I.kept hk, ⟨_, rfl⟩, q⟩) hz
  | non => cases hd; cases rv; exact PySem.P.repr_of_none (key _)
  | bl b => cases hd; cases rv; exact PySem.P.repr_of_bool (key _)
  | int i => cases hd; obtain ⟨t, rfl⟩ := rv; exact PySem.P.repr_of_int (by simpa [PyData.showable] using hs) (key _)
  | str x => cases hd; obtain ⟨t, rfl⟩ := rv; exact PySem.P.repr_of_str (key _) (by simpa only [PyData.shown] using hz)
  | _ => cases hd
def guRepr : GU := fun x h Q => ∃ d, dR h x = some d ∧ d.showable = true ∧ d.shown.length ≤ sizeLine ∧ Q (.val (.str d.shown)) h
theorem mc_repr (gd : X.A.guards = some []) (hu : X.A.units + 65 < cLine) : MC1 X (.builtin "repr") guRepr := by
  refine ⟨_, cr_repr gd hu, fun m h H x rx QV Q rh r1 q k => ?_⟩
  obtain ⟨d, e, hs, hz, q⟩ := q
  obtain ⟨a1, a2⟩ := dR_ok rh r1 e
  unfold SeqAt.shaped at a2
  rw [Bool.and_eq_true, decide_eq_true_eq] at a2
  exact ⟨x, d, rfl, a1, hs, by omega, hz, k m H h _ _ (.val rh .str) q⟩
end
end VL

set_option autoImplicit false
/-! VL51: a law's def that is asked where no repr is under way. -/
namespace VL
open PySem L2 PySem.Spec PyProof.Rows
section
variable {P : Program} {w : World} {K : PySem.W.Frag} {mg mb : Str → Option Value} {k : Nat} {fa a : Addr} {fd : FuncData} {x : Str} {sp : Sp} {s : Shared} {vs : List Value} {ns : List Int}
/-- from an abstract heap that tracks the script alone, if anything -/
theorem ask_from (inK : K.In s.heap) (hns : s.heap.Ns mainGlobals mg) (hb : s.heap.Ns builtinsNs mb) (hbb : ∀ x : Str, x ≠ "__name__" → mb x = bootBuiltins x) (hlim : s.heap.NoLimit) (gens : s.gens = #[])
    (ha : s.heap.get? a = some { cls := .type "list", data := .seq vs.toArray }) (room : Room k callerA) (F : ∀ base : Heap, K.In base → base.Ns mainGlobals mg → FnG P w K mg base k fa fd [x] sp) (bind : ∀ (s : Shared) (u : Value), BindsTo s fd ⟨[u], []⟩ [(x, u)])
    {H : Hp} (hO : Only H) (ok : HOk P w H s.heap) (alone : ∀ b, H b ≠ none → b = a ∧ K.lookup b = none) (hs : sp [.ref a] H (fun v _ => v = .bl true) L2.E0) :
    codeAny (model P w) callerA (.call (.ref fa) ⟨[.ref a], []⟩) (fun r s' => r = .ok (.ret (.bool true)) ∧ OldK s.heap s'.heap ∧ s'.os = s.os ∧ AllBare s'.gens) s := by
  have kin : K.In (hidT s.heap H) := fun b o e => hidT_get (inK b o e) (Classical.byContradiction fun n => by rw [(alone b n).2] at e; cases e)
  have ns' : ∀ {b : Addr} {m : Str → Option Value}, s.heap.Ns b m → (hidT s.heap H).Ns b m := by
    rintro b m ⟨o, es, ep, e, d, r⟩
    refine ⟨o, es, ep, hidT_get e (Classical.byContradiction fun n => ?_), d, r⟩
    obtain ⟨rfl, _⟩ := alone b n
    rw [ha] at e
    cases e
    cases (d : Data.seq vs.toArray _ = Data.dict es ep)
  have e0 : Env0 P w K mg (hidT s.heap H) callerA [] s H := by
    refine ⟨rfl, ⟨kin, ns' hns, ⟨mb, ns' hb, hbb⟩, ?_⟩, fun b o e => of_hidT e, Nat.le_of_eq (hidT_size _ _), trivial, fun b hb => ?_, ok, .of_eq gens⟩
    · obtain ⟨mc, h1, h2⟩ := hlim
      exact ⟨mc, ns' h1, h2⟩
    · cases (show b ∈ ([] : List Addr) from hb)
  refine codeAny_mono ((F _ kin (ns' hns)).run callerA [] s H ⟨[.ref a], []⟩ [.ref a] [.ref a] (fun v _ => v = .bl true) L2.E0 rfl room e0 (bind s (.ref a)) (.cons rfl .nil) hs) fun r s' h => ?_
  match r, h with
  | .error _, h => exact False.elim h
  | .ok .next, h => exact False.elim h
  | .ok .brk, h => exact False.elim h
  | .ok .cont, h => exact False.elim h
  | .ok (.ret u), ⟨v, H', os, bare, un, ok', rv, q⟩ =>
    subst q
    cases (show u = Value.bool true from rv)
    refine ⟨rfl, OldK.of_keep fun b o e => ?_, os, bare⟩
    rcases hO b with z | ⟨ob, xs, z⟩
    · exact un.keep b o e z (fun y => by cases (show b ∈ ([] : List Addr) from y)) (fun y => by cases (show b ∈ ([] : List Addr) from y))
    · have h1 := (ok b _ z).1
      have h2 := (ok' b _ (un.frzs b ob _ z)).1
      rw [h1] at e
      cases e
      exact h2
theorem ask_law (inK : K.In s.heap) (hns : s.heap.Ns mainGlobals mg) (hb : s.heap.Ns builtinsNs mb) (hbb : ∀ x : Str, x ≠ "__name__" → mb x = bootBuiltins x) (hlim : s.heap.NoLimit) (gens : s.gens = #[])
    (ha : s.heap.get? a = some { cls := .type "list", data := .seq vs.toArray }) (hi : IntsAre vs ns) (hl : ns.length ≤ sizeLine) (room : Room k callerA) (F : ∀ base : Heap, K.In base → base.Ns mainGlobals mg → FnG P w K mg base k fa fd [x] sp) (bind : ∀ (s : Shared) (u : Value), BindsTo s fd ⟨[u], []⟩ [(x, u)])
    (hs : ∀ H : Hp, Only H → SqL K H a (ns.map V.int) → sp [.ref a] H (fun v _ => v = .bl true) L2.E0) :
    codeAny (model P w) callerA (.call (.ref fa) ⟨[.ref a], []⟩) (fun r s' => r = .ok (.ret (.bool true)) ∧ OldK s.heap s'.heap ∧ s'.os = s.os ∧ AllBare s'.gens) s := by
  have rv := vals_ints hi
  by_cases own : ∃ o, K.lookup a = some o
  · obtain ⟨o, hk⟩ := own
    have e := inK a o hk
    rw [ha] at e
    cases e
    have hO : Only (fun _ => none) := fun _ => .inl rfl
    exact ask_from inK hns hb hbb hlim gens ha room F bind hO (fun b u z => nomatch z) (fun b n => absurd rfl n)
      (hs _ hO (.inr ⟨_, vs.toArray, _, hk, rfl, rfl, rfl, by rw [List.size_toArray, hi.length]; exact hl, by simpa using rv⟩))
  · have free : K.lookup a = none := by
      cases q : K.lookup a with
      | none => rfl
      | some o => exact absurd ⟨o, q⟩ own
    let H : Hp := fun b => if b = a then some (.frz { cls := .type "list", data := .seq vs.toArray } (.lst (ns.map V.int))) else none
    have at_ : ∀ {b u}, H b = some u → b = a ∧ u = .frz { cls := .type "list", data := .seq vs.toArray } (.lst (ns.map V.int)) := fun {b u} z => by
      by_cases c : b = a
      · exact ⟨c, (Option.some.inj ((if_pos c).symm.trans z)).symm⟩
      · cases (if_neg c).symm.trans z
    have hO : Only H := fun b => by
      cases q : H b with
      | none => exact .inl rfl
      | some u => exact .inr ⟨_, _, congrArg some (at_ q).2⟩
    refine ask_from inK hns hb hbb hlim gens ha room F bind hO (fun b u z => ?_) (fun b n => ?_) (hs H hO (.inl (.inr ⟨_, if_pos rfl⟩)))
    · obtain ⟨rfl, rfl⟩ := at_ z
      exact ⟨ha, by rw [List.length_map]; exact hl, vs, _, rv, ha⟩
    · cases q : H b with
      | none => exact absurd q n
      | some u => obtain ⟨rfl, _⟩ := at_ q; exact ⟨rfl, free⟩
end
/-- the goal of the head, from the law's promise where no repr is under way -/
theorem walk_ofG {l : PySem.W.OpenLaw} {n k : Nat} {q : Program} {loose : List Str} {XP : (Str → Option Value) → Heap → Prop} {YP : World → Heap → Prop} {d : DefRec} {K : Params → PySem.W.Frag} {sp : World → Sp} {x : Str}
    (hn : l.most = some n) (hn2 : n ≤ sizeLine) (hdf : d.params.defaults = []) (hr : Room k callerA) (hY : ∀ (w : World) (h : Heap), YP w h → (K w.params).In h)
    (F : ∀ (w : World) (mg : Str → Option Value) (fa : Addr) (h : Heap), (K w.params).In h → h.Ns mainGlobals mg → mg d.name = some (.ref fa) →
      ∃ fd : FuncData, (∀ (s : Shared) (u : Value), BindsTo s fd ⟨[u], []⟩ [(x, u)]) ∧ ∀ base : Heap, (K w.params).In base → base.Ns mainGlobals mg → FnG l.prog w (K w.params) mg base k fa fd [x] (sp w))
    (hsp : ∀ (w : World) (H : Hp) (a : Addr) (ns : List Int), ns.length ≤ n → Only H → SqL (K w.params) H a (ns.map V.int) → sp w [.ref a] H (fun v _ => v = .bl true) L2.E0) :
    PySem.W.WalkO q loose XP YP l.row.toRowW d [] (fun f vs => PySem.call f vs) :=
  Att.attach_call hn hdf fun w s₀ s₁ mg mb fa o pm cd doc a vs ns G Y ho hd hcd hmg hobj hints hlen hg => by
    have inK := hY w _ Y
    obtain ⟨fd, bind, F'⟩ := F w mg fa _ inK G.T.g hmg
    exact ask_law inK G.T.g G.T.b G.T.builtins G.T.nolimit hg hobj hints (Nat.le_trans hlen hn2) hr F' bind fun H hO hS => hsp w H a ns hlen hO hS
end VL

set_option autoImplicit false
/-! VL52: things of small depth and length, which repr writes. -/
namespace VL
open PySem L2
/-- a thing of f levels at most: whole numbers of few figures, short texts, tuples and lists of at most forty -/
def Gd (h : VH) : Nat → VV → Prop
  | 0, _ => False
  | f + 1, v => match v with
    | .non => True
    | .bl _ => True
    | .int i => i.natAbs < 10 ^ 61
    | .str z => PyData.strOk z = true ∧ (reprText z).length ≤ 100
    | .tup xs => xs.length ≤ 40 ∧ ∀ x ∈ xs, Gd h f x
    | .ref n => ∃ xs, h[n]? = some (.lst xs) ∧ xs.length ≤ 40 ∧ ∀ x ∈ xs, Gd h f x
    | _ => False
def cap : Nat → Nat
  | 0 => 0
  | 1 => 110
  | f + 2 => 40 * (cap (f + 1) + 2) + 4
theorem cap_pos : ∀ f, 110 ≤ cap (f + 1)
  | 0 => Nat.le_refl _
  | f + 1 => by have := cap_pos f; show 110 ≤ 40 * (cap (f + 1) + 2) + 4; omega
theorem cap_step (f : Nat) : 40 * (cap f + 2) + 4 ≤ cap (f + 1) := by
  cases f with
  | zero => show 40 * (0 + 2) + 4 ≤ 110; decide
  | succ f => exact Nat.le_refl _
theorem piled_le {b : Nat} : ∀ {ts : List Str}, (∀ t ∈ ts, t.length ≤ b) → piled ts ≤ ts.length * (b + 2)
  | [], _ => by simp [piled]
  | t :: ts, h => by
    have h1 := h t (by simp)
    have h2 := piled_le (ts := ts) fun x hx => h x (by simp [hx])
    rw [piled_cons, List.length_cons, Nat.add_mul]; omega
theorem tupleText_le (ts : List Str) : (tupleText ts).length ≤ piled ts + 3 := by
  unfold tupleText
  rw [strLen_append, strLen_append]
  have e1 : (("(" : String) : Str).length = 1 := rfl
  have e3 : ((if ts.length == 1 then ",)" else ")" : String) : Str).length ≤ 2 := by split <;> decide
  rw [e1]
  by_cases c : ts = []
  · subst c
    have : (Str.join ", " []).length = 0 := rfl
    omega
  · have := join_length_add ts c
    omega
theorem listText_le (ts : List Str) : (listText ts).length ≤ piled ts + 3 := by
  cases ts with
  | nil => exact (by decide : (listText []).length ≤ 3)
  | cons t ts =>
    show (textFrom 1 (("[" : Str) ++ (if (0 : Nat) > 0 then ", " else "" : String) ++ t) ts ++ "]").length ≤ _
    rw [strLen_append, textFrom_length_pos ts 1 _ (by decide), strLen_append, strLen_append, piled_cons]
    have e1 : (("[" : String) : Str).length = 1 := rfl
    have e2 : (("]" : String) : Str).length = 1 := rfl
    have e3 : ((if (0 : Nat) > 0 then ", " else "" : String) : Str).length = 0 := rfl
    omega
theorem shownAll_len : ∀ ds : List PyData, (PyData.shownAll ds).length = ds.length
  | [] => rfl
  | d :: ds => by unfold PyData.shownAll; rw [List.length_cons, List.length_cons, shownAll_len ds]
structure Few (d : PyData) (b : Nat) : Prop where
  show_ : d.showable = true
  len : d.shown.length ≤ b
theorem few_all {h : VH} {g b : Nat} : ∀ {xs : List VV}, (∀ x ∈ xs, ∃ d, dV g h x = some d ∧ Few d b) → ∃ ds, optAll (dV g h) xs = some ds ∧ ds.length = xs.length ∧ PyData.showableAll ds = true ∧ ∀ t ∈ PyData.shownAll ds, t.length ≤ b
  | [], _ => ⟨[], rfl, rfl, rfl, fun t ht => by cases ht⟩
  | x :: xs, hx => by
    obtain ⟨d, e1, F⟩ := hx x (by simp)
    obtain ⟨ds, e2, l, s, q⟩ := few_all (xs := xs) fun y hy => hx y (by simp [hy])
    refine ⟨d :: ds, by rw [optAll, e1, e2], by rw [List.length_cons, List.length_cons, l], by unfold PyData.showableAll; rw [F.show_, s]; rfl, fun t ht => ?_⟩
    unfold PyData.shownAll at ht
    rcases List.mem_cons.mp ht with rfl | ht
    · exact F.len
    · exact q t ht
theorem gd_few {h : VH} : ∀ (f g : Nat) (v : VV), f ≤ g → Gd h f v → ∃ d, dV g h v = some d ∧ Few d (cap f)
  | 0, _, _, _, q => q.elim
  | f + 1, 0, _, l, _ => by omega
  | f + 1, g + 1, v, l, q => by
    have c0 := cap_pos f
    have c1 := cap_step f
    unfold Gd at q
    have seq : ∀ {xs : List VV}, xs.length ≤ 40 → (∀ x ∈ xs, Gd h f x) → ∃ ds, optAll (dV g h) xs = some ds ∧ PyData.showableAll ds = true ∧ piled (PyData.shownAll ds) ≤ 40 * (cap f + 2) := fun {xs} l1 q => by
      obtain ⟨ds, e, l2, s, t⟩ := few_all (g := g) (b := cap f) fun x hx => gd_few f g x (by omega) (q x hx)
      have := piled_le t
      rw [shownAll_len, l2] at this
      exact ⟨ds, e, s, Nat.le_trans this (Nat.mul_le_mul_right _ l1)⟩
    unfold dV
    split at q
    · exact ⟨_, rfl, rfl, Nat.le_trans (by decide : ((("None" : String) : Str)).length ≤ 110) c0⟩
    · rename_i b
      refine ⟨_, rfl, rfl, Nat.le_trans ?_ c0⟩
      cases b <;> decide
    · rename_i i
      have i2 : i.natAbs.log2 < 1920 := by
        by_cases z : i.natAbs = 0
        · rw [z]; decide
        · rw [Nat.log2_lt z]
          exact Nat.lt_trans q (by decide)
      refine ⟨_, rfl, by simpa [PyData.showable] using i2, Nat.le_trans ?_ c0⟩
      have := int_text_length_le10 (a := i) (k := 61) (by decide) q
      show (Str.ofString (toString i)).length ≤ 110
      have e := ofString_length (toString i)
      omega
    · rename_i z
      refine ⟨.str z, by dsimp only; rw [if_pos q.1], rfl, Nat.le_trans ?_ c0⟩
      exact Nat.le_trans q.2 (by decide)
    · rename_i xs
      obtain ⟨ds, e, s, p⟩ := seq q.1 q.2
      refine ⟨.tuple ds, by dsimp only; rw [e]; rfl, s, ?_⟩
      have := tupleText_le (PyData.shownAll ds)
      show (tupleText (PyData.shownAll ds)).length ≤ _
      omega
    · rename_i n
      obtain ⟨xs, hn, l1, q⟩ := q
      obtain ⟨ds, e, s, p⟩ := seq l1 q
      refine ⟨.list ds, by dsimp only; rw [hn]; dsimp only; rw [e]; rfl, s, ?_⟩
      have := listText_le (PyData.shownAll ds)
      show (listText (PyData.shownAll ds)).length ≤ _
      omega
    · exact q.elim
theorem Gd.app {h j : VH} : ∀ {f : Nat} {v : VV}, Gd h f v → Gd (h ++ j) f v
  | 0, _, q => q.elim
  | f + 1, v, q => by
    unfold Gd at q ⊢
    split at q
    · trivial
    · trivial
    · exact q
    · exact q
    · exact ⟨q.1, fun x hx => Gd.app (q.2 x hx)⟩
    · obtain ⟨xs, hn, l, q⟩ := q
      exact ⟨xs, by rw [List.getElem?_append_left (List.getElem?_eq_some_iff.mp hn).1]; exact hn, l, fun x hx => Gd.app (q x hx)⟩
    · exact q.elim
theorem Gd.up {h : VH} : ∀ {f : Nat} {v : VV}, Gd h f v → Gd h (f + 1) v
  | 0, _, q => q.elim
  | f + 1, v, q => by
    unfold Gd at q ⊢
    split at q
    · trivial
    · trivial
    · exact q
    · exact q
    · exact ⟨q.1, fun x hx => Gd.up (q.2 x hx)⟩
    · obtain ⟨xs, hn, l, q⟩ := q
      exact ⟨xs, hn, l, fun x hx => Gd.up (q x hx)⟩
    · exact q.elim
/-- repr of such a thing -/
theorem t_repr {h : VH} {Q : R → VH → Prop} {v : VV} (q : Gd h 4 v) (k : ∀ d, dV 20 h v = some d → Q (.val (.str d.shown)) h) : guRepr (.val v) h Q := by
  obtain ⟨d, e, F⟩ := gd_few 4 20 v (by decide) q
  exact ⟨d, e, F.show_, Nat.le_trans F.len (by decide), k d e⟩
theorem t_reprD {h : VH} {Q : R → VH → Prop} {v : VV} {d : PyData} (q : Gd h 4 v) (e : dV 20 h v = some d) (k : Q (.val (.str d.shown)) h) : guRepr (.val v) h Q := t_repr q fun d' e' => by rw [e] at e'; cases e'; exact k
section
variable {X : Cx}
/-- != of two texts -/
def goNeS : GO := fun x y h Q => ∃ a b : Str, x = .val (.str a) ∧ y = .val (.str b) ∧ Q (.val (.bl (!decide (a = b)))) h
theorem mo_neS : MO X (compareOp .NotEq) goNeS := by
  refine ⟨_, op_ne, fun m h H x y rx ry QV Q rh r1 r2 q k => ?_⟩
  obtain ⟨a, b, rfl, rfl, q⟩ := q
  cases RelT.str_inv r1
  cases RelT.str_inv r2
  refine ⟨rfl, ?_⟩
  rw [show decide (V.str a = V.str b) = decide (a = b) by simp]
  exact k m H h _ _ (.val rh .bl) q
theorem t_neT {h : VH} {Q : R → VH → Prop} {a b : Str} (q : Q (.val (.bl (!decide (a = b)))) h) : goNeS (.val (.str a)) (.val (.str b)) h Q := ⟨a, b, rfl, rfl, q⟩
end
theorem Gd.imp {h h' : VH} (e : ∀ (n : Nat) (xs : List VV), h[n]? = some (VO.lst xs) → h'[n]? = some (VO.lst xs)) : ∀ {f : Nat} {v : VV}, Gd h f v → Gd h' f v
  | 0, _, q => q.elim
  | f + 1, v, q => by
    unfold Gd at q ⊢
    split at q
    · trivial
    · trivial
    · exact q
    · exact q
    · exact ⟨q.1, fun x hx => Gd.imp e (q.2 x hx)⟩
    · obtain ⟨xs, hn, l, q⟩ := q
      exact ⟨xs, e _ _ hn, l, fun x hx => Gd.imp e (q x hx)⟩
    · exact q.elim
/-- the part of a law's heap that drawing doesn't change -/
def Dr (r : VH) : VH := .dic [] [] :: .dic [] [] :: r
abbrev Gx (r : VH) (f : Nat) (v : VV) : Prop := Gd (Dr r) f v
theorem Gx.th {ns : List Int} {s : Ur} {r : VH} {f : Nat} {v : VV} (q : Gx r f v) : Gd (TH ns s r) f v := Gd.imp (fun n xs e => by
  match n, e with
  | 0, e => cases e
  | 1, e => cases e
  | n + 2, e => exact e) q
theorem Gx.app {r j : VH} {f : Nat} {v : VV} (q : Gx r f v) : Gx (r ++ j) f v := Gd.app (h := Dr r) (j := j) q
theorem gx_int {r : VH} {f : Nat} {i : Int} (h : i.natAbs < 10 ^ 61) : Gx r (f + 1) (.int i) := h
theorem gx_tup {r : VH} {f : Nat} {xs : List VV} (l : xs.length ≤ 40) (q : ∀ x ∈ xs, Gx r f x) : Gx r (f + 1) (.tup xs) := ⟨l, q⟩
theorem gx_ref {r : VH} {f k : Nat} {xs : List VV} (e : r[k]? = some (.lst xs)) (l : xs.length ≤ 40) (q : ∀ x ∈ xs, Gx r f x) : Gx r (f + 1) (.ref (k + 2)) := ⟨xs, e, l, q⟩
theorem Gd.sub {h : VH} {f : Nat} {xs : List VV} (q : Gd h (f + 1) (.tup xs)) : xs.length ≤ 40 ∧ ∀ x ∈ xs, Gd h f x := q
theorem Gd.ty {h : VH} : ∀ {f : Nat} {v : VV}, Gd h f v → TyD h v ∧ ∀ xs, v ≠ .ftp xs
  | 0, _, q => q.elim
  | f + 1, v, q => by
    unfold Gd at q
    split at q
    · exact ⟨⟨_, rfl⟩, fun _ e => nomatch e⟩
    · exact ⟨⟨_, rfl⟩, fun _ e => nomatch e⟩
    · exact ⟨⟨_, rfl⟩, fun _ e => nomatch e⟩
    · exact ⟨⟨_, rfl⟩, fun _ e => nomatch e⟩
    · exact ⟨⟨_, rfl⟩, fun _ e => nomatch e⟩
    · obtain ⟨xs, hn, _⟩ := q
      exact ⟨⟨"list", by unfold tyR; simp only [hn]⟩, fun _ e => nomatch e⟩
    · exact q.elim
end VL

set_option autoImplicit false
/-! VL53: t[::-1] of a tuple. -/
namespace VL
open PySem L2 PySem.Spec PyProof.Rows HT
section
variable {prog : Program} {w : World} {A : Around} {E : Value → Shared → Prop} {s : Shared}
theorem rev_applied {sl : Addr} {k : Int} {u : Tok} {n : Nat} {Q : Int × Int × Nat → Shared → Prop} (hs : s.heap.IsSliceOf sl .none .none (.int (-1) u))
    (h : Q ((n : Int) - 1, -1, n) s) : wpAny (model prog w) A (Builtin.Slice.sliceApplied (.ref sl) (pure (n : Int))) Q E s := by
  obtain ⟨os, hos, hcs, hds⟩ := id hs
  unfold Builtin.Slice.sliceApplied Builtin.Slice.sliceFields
  refine wpAny_bind (wpAny_bind (wpAny_field hos hds (x := .none) rfl (wpAny_bind (wpAny_field hos hds (x := .none) rfl (wpAny_bind (wpAny_field hos hds (x := .int (-1) u) rfl (wpAny_pure ?_)))))))
  refine wpAny_bind (slicePart_ (.int (-1) u) ?_)
  show wpAny _ _ (if ((-1 : Int) == 0) = true then _ else _) _ _ s
  rw [if_neg (by decide)]
  refine wpAny_bind (slicePart_ .none (wpAny_bind (slicePart_ .none (wpAny_bind (wpAny_pure ?_)))))
  have e : Builtin.Slice.slicePlaces ((n : Int) - 1) (-1) (-1) = n := by
    unfold Builtin.Slice.slicePlaces
    have h1 : ¬ ((-1 : Int) > 0) := by decide
    have h2 : (- -1 : Int) = 1 := by decide
    simp only [h1, if_false, h2, Int.ediv_one]
    split <;> omega
  show wpAny _ _ (pure ((n : Int) - 1, (-1 : Int), Builtin.Slice.slicePlaces ((n : Int) - 1) (-1) (-1))) _ _ s
  rw [e]
  exact wpAny_pure h
theorem rev_pick (xs : Array Value) : ((List.range xs.size).filterMap fun (m : Nat) => xs[(((xs.size : Int) - 1) + (m : Int) * (-1)).toNat]?).toArray = xs.toList.reverse.toArray := by
  have e : (List.range xs.size).filterMap (fun (m : Nat) => xs[(((xs.size : Int) - 1) + (m : Int) * (-1)).toNat]?) = (List.range xs.size).filterMap fun m => xs[xs.size - 1 - m]? := by
    congr 1
    funext m
    rw [show (((xs.size : Int) - 1) + (m : Int) * (-1)).toNat = xs.size - 1 - m by omega]
  rw [e]
  have e2 : (List.range xs.size).filterMap (fun m => xs[xs.size - 1 - m]?) = ((List.range xs.size).map fun k => xs.size - 1 - k).filterMap (xs[·]?) := by
    rw [List.filterMap_map]; rfl
  rw [e2, PySem.W.krv_range, List.filterMap_reverse, PySem.W.krv_all]
theorem getItem_tuple_rev {t sl : Addr} {items : Array Value} {u : Tok} {Q : Value → Shared → Prop} (ht : IsTup s.heap t items) (hs : s.heap.IsSliceOf sl .none .none (.int (-1) u))
    (h : Q (.ref s.heap.objs.size) { s with heap := s.heap.push { cls := .type "tuple", data := .seq items.toList.reverse.toArray } })
    (hsz : items.size ≤ sizeLine) : wpAny (model prog w) A (getItem (.ref t) (.ref sl)) Q E s := by
  have htake : sizeOk (.seq items.toList.reverse.toArray) := by
    show items.toList.reverse.toArray.size ≤ sizeLine
    rw [List.size_toArray, List.length_reverse, Array.length_toList]
    exact hsz
  obtain ⟨os, hos, hcs, hds⟩ := id hs
  have hTs : s.TypeIs (.ref sl) "slice" := ⟨os, hos, hcs⟩
  unfold getItem
  try with_reducible refine wpAny_holding ?_
  first | refine wpAny_bind (wpAny_pure ?_) | skip
  refine wpAny_bind (wpAny_sequenceKey ht.typeIs (by decide) ?_)
  refine wpAny_bind (wpAny_callSpecial?_slot (name := Str.ofString "__getitem__") ht.typeIs PyProof.Rows.slot_tuple_getitem
    (wpAny_call_entry PyProof.Rows.slot_tuple_getitem ht.typeIs entry_tuple_getitem ?_ (args_tuple_getitem _ _)))
  show wpAny _ _ (Builtin.Tuple.tupleItemsOf (.ref t) >>= _) _ _ s
  refine wpAny_bind (tupleItemsOf_ ht ?_)
  refine wpAny_bind (wpAny_typeOf hTs ?_)
  rw [if_pos (by decide)]
  refine wpAny_bind (rev_applied (k := 0) hs ?_)
  have hno : ¬ ((((items.size : Int) - 1) == 0 && (-1 : Int) == 1 && items.size == items.size) = true) := by
    intro q
    rw [Bool.and_eq_true, Bool.and_eq_true] at q
    exact absurd (eq_of_beq q.1.2) (by decide)
  show wpAny _ _ (if (((items.size : Int) - 1) == 0 && (-1 : Int) == 1 && items.size == items.size) = true then _ else _) _ _ s
  rw [if_neg hno, rev_pick]
  first
    | exact wpAny_bind (m := Builtin.Tuple.tupleExact _) (wpAny_newObj_type (wpAny_pure ⟨_, rfl, wpAny_pure h⟩) htake)
    | exact wpAny_bind (m := Builtin.Tuple.tupleExact _) (wpAny_newObj_type (wpAny_bind (wpAny_pure (wpAny_pure ⟨_, rfl, wpAny_pure h⟩))) htake)
    | exact wpAny_bind (wpAny_bind (m := Builtin.Tuple.tupleExact _) (wpAny_newObj_type (wpAny_pure (wpAny_pure ⟨_, rfl, wpAny_pure h⟩)) htake))
    | exact wpAny_bind (wpAny_bind (m := Builtin.Tuple.tupleExact _) (wpAny_newObj_type (wpAny_pure ⟨_, rfl, wpAny_pure h⟩) htake))
end
def tRevT (K : PySem.W.Frag) (te : TE) : TE := fun σ H Q => te σ H fun x H1 => ∃ a xs, x = .ref a ∧ SqT K H1 a xs ∧ ∀ p, H1 p = none → Q (.ref p) (upd H1 p (.tup xs.reverse))
theorem pe_revT {X : Cx} {e : Expr} {te : TE} {k : Nat} {p1 p2 p3 pos : Pos} (he : PE X e te) : PE X (.Subscript e (.Slice none none (some (.UnaryOp .USub (.Constant (.int 1) k p1) p2)) p3) pos) (tRevT X.K te) := by
  refine ⟨fun pins s σ H Q I h => ?_⟩
  refine Subscript_ (thn (he.run pins s σ H _ I h) fun v s1 ⟨x, H1, I1, r1, q1⟩ => ?_)
  obtain ⟨a, xs, ex, hx, q⟩ := q1
  subst ex
  cases r1
  have hst : PO X (some (.UnaryOp .USub (.Constant (.int 1) k p1) p2)) (tPart (tUn (rU fun i => .int (-i)) (tC (.int 1)))) := po_some (pe_un un_neg pe_int)
  refine wpAny_Slice (thn (po_none.run pins s1 σ H1 (fun o H2 => o = none ∧ H2 = H1) I1 ⟨rfl, rfl⟩) fun vl s2 ⟨l, H2, I2, pl, el, e2⟩ => ?_)
  subst el e2
  refine thn (po_none.run pins s2 σ H2 (fun o H3 => o = none ∧ H3 = H2) I2 ⟨rfl, rfl⟩) fun vu s3 ⟨u, H3, I3, pu, eu, e3⟩ => ?_
  subst eu e3
  refine thn (hst.run pins s3 σ H3 (fun o H4 => o = some (-1) ∧ H4 = H3) I3 ⟨1, rfl, -1, rfl, rfl, rfl⟩) fun vs s4 ⟨o, H4, I4, ps, eo, e4⟩ => ?_
  subst eo e4
  cases pl
  cases pu
  obtain ⟨u, rfl⟩ : ∃ u, vs = .int (-1) u := by cases ps; exact ⟨_, rfl⟩
  have I5 : Inv X pins σ H4 { s4 with heap := s4.heap.push { cls := .type "slice", data := .fields #[.none, .none, .int (-1) u] } } := I4.kept (t' := s4.toks) fun b ob q => Heap.get?_push_of_some _ q
  obtain ⟨its, r, ht, hz⟩ := I5.tuple hx
  have hlen := r.length
  show wpAny (model X.prog X.w) X.A (subscriptTail e (.Slice none none (some (.UnaryOp .USub (.Constant (.int 1) k p1) p2)) p3) (.ref a) (.ref s4.heap.objs.size)) (EP X pins σ Q) X.xe { s4 with heap := s4.heap.push { cls := .type "slice", data := .fields #[.none, .none, .int (-1) u] } }
  refine tail_any (ops := [.ref a, .ref s4.heap.objs.size]) ht.typeIs (PyProof.Rows.slot_tuple_getitem.lookup) ?_ (by with_unfolding_all rfl)
  refine getItem_tuple_rev ht (Heap.IsSliceOf.new _ .none .none (.int (-1) u)) ?_ (by rw [List.size_toArray]; omega)
  refine ⟨.ref _, _, I5.laid (t' := s4.toks) (o := .tup xs.reverse) (fun b ob q => Heap.get?_push_of_some _ q) (Nat.le_refl _) ?_, rfl, q _ (I5.hok.fresh (Nat.le_refl _))⟩
  exact ⟨by rw [List.length_reverse]; omega, _, r.reverse, IsTup.new _ _⟩
section
variable {K : PySem.W.Frag} {m m' : List Addr} {H H' : Hp} {h h' : VH} {ρ : VL.Env} {σ : L2.St} {X : Cx} {a b c : Expr} {ga gb gc : GE} {pos : Pos}
/-- t[::-1] of a tuple -/
def gRevT (ga : GE) : GE := fun ρ h Q => ga ρ h fun r h1 => match r with
  | .val (.tup xs) => Q (.val (.tup xs.reverse)) h1
  | _ => False
theorem mrevT {k : Nat} {p1 p2 p3 : Pos} (ha : MX X a ga) : MX X (.Subscript a (.Slice none none (some (.UnaryOp .USub (.Constant (.int 1) k p1) p2)) p3) pos) (gRevT ga) := by
  obtain ⟨t, a1, a2⟩ := ha.ex
  refine ⟨_, pe_revT a1, fun m h H ρ σ QV Q rh re hg k => a2 m h H ρ σ _ _ rh re hg fun m1 H1 h1 r x p q => ?_⟩
  split at q
  · rename_i xs
    obtain ⟨pa, ys, rfl, h2, r2⟩ := RelT.tup_raw p.rr
    exact ⟨pa, ys, rfl, .of h2, fun l hl => k m1 _ h1 _ _ ((Pst.tup p.rh hl r2.reverse).from_ p.ev p.rh) q⟩
  · exact q.elim
theorem t_revT {Q : R → VH → Prop} (q : ga ρ h fun r h1 => match r with
  | .val (.tup xs) => Q (.val (.tup xs.reverse)) h1
  | _ => False) : gRevT ga ρ h Q := q
end
end VL

set_option autoImplicit false
/-! VL54: xs[i], ys[j] = a, b. -/
namespace VL
open PySem L2
/-- s[t] = v -/
def setK (s t : R) (v : VV) (h : VH) (Q : VH → Prop) : Prop := match s, t with
  | .val (.ref n), .val (.int i) => match h[n]? with
    | some (.lst xs) => match ixN xs.length i with
      | some j => Q (h.set n (.lst (xs.set j v)))
      | none => False
    | _ => False
  | _, _ => False
def gSet2 (gv go1 gi1 go2 gi2 : GE) : GS := fun D ρ h => gv ρ h fun r h1 => match r with
  | .val (.tup [x, y]) => go1 ρ h1 fun s h2 => gi1 ρ h2 fun t h3 => setK s t x h3 fun h4 => go2 ρ h4 fun s h5 => gi2 ρ h5 fun t h6 => setK s t y h6 fun h7 => D.nx ρ h7
  | _ => False
section
variable {K : PySem.W.Frag} {X : Cx} {a b c d e : Expr} {ga gb gc gd ge : GE} {pos : Pos}
theorem msset2 {pv pv2 pt : Pos} {kk : Nat} (hc : X.calm = true) (hv : MX X c gc) (ha : MX X a ga) (hb : MX X b gb) (hd : MX X d gd) (he : MX X e ge)
    (hset : ∀ v, assign (.Subscript a b pv) X.env v = (do
      let ov ← holding [v] (eval a X.env)
      let iv ← holding [v, ov] (eval b X.env)
      standAt pv
      holding [v, ov, iv] (setItem ov iv v)
      release [v, ov, iv] []) := by intro _; rfl)
    (hset2 : ∀ v, assign (.Subscript d e pv2) X.env v = (do
      let ov ← holding [v] (eval d X.env)
      let iv ← holding [v, ov] (eval e X.env)
      standAt pv2
      holding [v, ov, iv] (setItem ov iv v)
      release [v, ov, iv] []) := by intro _; rfl)
    (hn : (assignEach [.Subscript a b pv, .Subscript d e pv2] X.env).length = 2 := by rfl) (hst : (assignEach [.Subscript a b pv, .Subscript d e pv2] X.env).findIdx? (·.1) = none := by rfl)
    (hc1 : (assignEach [.Subscript a b pv, .Subscript d e pv2] X.env).map (·.2) = assign (.Subscript a b pv) X.env :: (assignEach [.Subscript d e pv2] X.env).map (·.2) := by rfl)
    (hc2 : (assignEach [.Subscript d e pv2] X.env).map (·.2) = assign (.Subscript d e pv2) X.env :: (assignEach [] X.env).map (·.2) := by rfl)
    (hs : swapsWithSole [.Tuple [.Subscript a b pv, .Subscript d e pv2] kk pt] c pos.line X.env = pure false := by rfl) (hw : swappedStores [.Tuple [.Subscript a b pv, .Subscript d e pv2] kk pt] c X.env = pure none := by rfl)
    (h1 : (assignEach [.Tuple [.Subscript a b pv, .Subscript d e pv2] kk pt] X.env).map (·.2) = [assign (.Tuple [.Subscript a b pv, .Subscript d e pv2] kk pt) X.env] := by rfl) :
    MS X (.Assign [.Tuple [.Subscript a b pv, .Subscript d e pv2] kk pt] c pos) (gSet2 gc ga gb gd ge) := by
  obtain ⟨t, a1, a2⟩ := ha.ex
  obtain ⟨u, b1, b2⟩ := hb.ex
  obtain ⟨w, c1, c2⟩ := hv.ex
  obtain ⟨t', d1, d2⟩ := hd.ex
  obtain ⟨u', e1, e2⟩ := he.ex
  refine ⟨_, ps_asg c1 (pg_tup (n := 2) hc (pgs_cons (pg_sub a1 b1 set_list hset) (pgs_cons (pg_sub d1 e1 set_list hset2) pgs_nil hc2) hc1) hn hst) hs hw h1, fun m h H ρ σ D E rh re hg k => c2 m h H ρ σ _ _ rh re hg fun m1 H1 h1 r x p1 q1 => ?_⟩
  split at q1
  · rename_i x0 y0
    obtain ⟨pt, ys, rfl, s, rs⟩ := p1.rr.tup_inv
    obtain ⟨v1, v2, rfl⟩ : ∃ v1 v2, ys = [v1, v2] := by
      have l := rs.len
      match ys, l with
      | [v1, v2], _ => exact ⟨v1, v2, rfl⟩
    have t1 := rs.at_ 0 x0 v1 rfl rfl
    have t2 := rs.at_ 1 y0 v2 rfl rfl
    refine ⟨pt, [v1, v2], rfl, s, rfl, v1, [v2], rfl, ?_⟩
    refine a2 m1 h1 H1 ρ σ _ _ p1.rh (re.mono p1.ev) q1 fun m3 H3 h3 s' y p3 q3 => b2 m3 h3 H3 ρ σ _ _ p3.rh ((re.mono p1.ev).mono p3.ev) q3 fun m4 H4 h4 i z p4 q4 => ?_
    unfold setK at q4
    split at q4
    · rename_i n i
      split at q4
      · rename_i xs hn
        split at q4
        · rename_i j hj
          have rr := RelT.mono p4.ev p3.rr
          obtain ⟨pa, zs, rfl, hp, z1, z2⟩ := kept_lst p4.rh hn rr
          cases RelT.int_inv p4.rr
          obtain ⟨e5, r5⟩ := rh_setlst (xs.set j x0) (zs.set j v1) p4.rh hn hp (z2.set ((t1.mono p3.ev).mono p4.ev) j)
          have e15 := (p3.ev.trans p4.ev).trans e5
          have e05 := p1.ev.trans e15
          refine ⟨pa, zs, i, j, rfl, rfl, z1, by rw [← z2.len]; exact hj, v2, [], rfl, ?_⟩
          refine d2 _ _ _ ρ σ _ _ r5 (re.mono e05) q4 fun m6 H6 h6 s' y p6 q6 => e2 m6 h6 H6 ρ σ _ _ p6.rh ((re.mono e05).mono p6.ev) q6 fun m7 H7 h7 i z p7 q7 => ?_
          unfold setK at q7
          split at q7
          · rename_i n2 i2
            split at q7
            · rename_i xs2 hn2
              split at q7
              · rename_i j2 hj2
                have rr2 := RelT.mono p7.ev p6.rr
                obtain ⟨pb, zs2, rfl, hp2, z3, z4⟩ := kept_lst p7.rh hn2 rr2
                cases RelT.int_inv p7.rr
                obtain ⟨e8, r8⟩ := rh_setlst (xs2.set j2 y0) (zs2.set j2 v2) p7.rh hn2 hp2 (z4.set ((t2.mono e15).mono (p6.ev.trans p7.ev)) j2)
                have e08 := ((e05.trans p6.ev).trans p7.ev).trans e8
                exact ⟨pb, zs2, i2, j2, rfl, rfl, z3, by rw [← z4.len]; exact hj2, rfl, k.nx m7 _ _ ρ σ e08 r8 (re.mono e08) q7⟩
              · exact q7.elim
            · exact q7.elim
          · exact q7.elim
        · exact q4.elim
      · exact q4.elim
    · exact q4.elim
  · exact q1.elim
end
section
variable {ρ : VL.Env} {h : VH}
theorem t_setK {n j : Nat} {i : Int} {v : VV} {xs : List VV} {Q : VH → Prop} (e : h[n]? = some (.lst xs)) (e2 : ixN xs.length i = some j) (q : Q (h.set n (.lst (xs.set j v)))) : setK (.val (.ref n)) (.val (.int i)) v h Q := by
  unfold setK
  simp only [e, e2]
  exact q
end
end VL

set_option autoImplicit false
/-! VL55: t * k, k from 1 on: t * 1 is t. -/
namespace VL
open PySem L2 PySem.Spec PyProof.Rows
theorem tuple_mul1 (l : Addr) (items : Array Value) (n : Nat) (sl : Array (Option Value)) (dd : Option Addr) (u : Tok) :
    Meets (Builtin.«tuple.__mul__» ⟨[.ref l, .int 1 u], []⟩) (fun _ R s => s.heap.get? l = some { cls := .type "tuple", dict := dd, data := .seq items n, slots := sl } ∧ R (.ok (.ret (Value.ref l))) s) :=
  .of_wp fun prog w A R s h => by
    obtain ⟨hp, g, d, tk, os⟩ := s
    obtain ⟨hl, h⟩ := h
    have f1 := AutoSeq1.idx_int
    have c0 : (decide ((1 : Int) < -(2 ^ 63)) || decide ((1 : Int) ≥ 2 ^ 63)) = false := by decide
    have c1 : (items.isEmpty || (1 : Int) == 1) = true := by rw [Bool.or_eq_true]; exact .inr (by decide)
    wp_walk using wpAny_loadPart' hl
    repeat (first
      | (refine wpAny_ite_false (decide_eq_false (by rw [c0]; exact Bool.false_ne_true)) ?_; wp_walk using wpAny_loadPart' hl)
      | (refine wpAny_ite_true (decide_eq_true c1) ?_; wp_walk using wpAny_loadPart' hl))
    exact ⟨_, rfl, h⟩
def rRep1 (K : PySem.W.Frag) : R2 := fun x y H Q => ∃ l xs, x = .ref l ∧ y = .int 1 ∧ SqT K H l xs ∧ Q (.ref l) H
section
variable {X : Cx}
theorem op_rep1 : OpR X (binaryOp .Mult) (rRep1 X.K) := by
  intro pins s σ H x y v u Q I rx ry h
  obtain ⟨l, xs, rfl, rfl, hT, q⟩ := h
  cases rx
  obtain ⟨t, rfl⟩ := ry
  obtain ⟨its, r, ⟨⟨cls, dd, data, sl⟩, ho, hc, n, hd⟩, hs⟩ := I.tuple hT
  simp only at hc hd
  subst hc hd
  refine wpAny_binaryOp_repeat_ref (T := "tuple") (U := "int") (by decide) ⟨_, ho, rfl⟩ (fun s' => typeIs_int s' 1 t) noFill_tuple_mul F.fills_int_mul F.slot_int_rmul repeat_tuple F.slot_int_index.lookup
    (call_meets F.slot_int_rmul (typeIs_int s 1 t) F.entry_int_rmul (F.args_int_rmul_2 _ _) (int_rmul_tuple 1 t l its.toArray n dd sl)
      ⟨ho, rfl, ⟨_, ho, rfl⟩, call_meets F.slot_tuple_mul ⟨_, ho, rfl⟩ F.entry_tuple_mul (F.args_tuple_mul_2 _ _) (tuple_mul1 l its.toArray n sl dd t) ⟨ho, ?_⟩⟩)
  exact ⟨.ref l, H, I, rfl, q⟩
/-- t * k of a tuple, k from 1 to 1000 -/
def goMulT : GO := fun x y h Q => match x, y with
  | .val (.tup s), .val (.int j) => (s ≠ [] ∧ 1 ≤ j ∧ j ≤ 1000 ∧ s.length ≤ 1000) ∧ Q (.val (.tup (List.replicate j.toNat s).flatten)) h
  | _, _ => False
theorem mo_mulT : MO X (binaryOp .Mult) goMulT := by
  refine ⟨_, op_repT.or op_rep1, fun m h H x y rx ry QV Q rh r1 r2 q k => ?_⟩
  unfold goMulT at q
  split at q
  · rename_i s j
    obtain ⟨p1, ys, rfl, h2, h3⟩ := RelT.tup_raw r1
    cases RelT.int_inv r2
    obtain ⟨⟨a1, a2, a3, a4⟩, q⟩ := q
    by_cases c : j = 1
    · subst c
      have e : (List.replicate (1 : Int).toNat s).flatten = s := by simp
      rw [e] at q
      exact .inr ⟨p1, ys, rfl, rfl, .of h2, k m H h _ _ (.val rh (.tup h2 h3.len h3.at_)) q⟩
    · refine .inl ⟨p1, j, ys, rfl, rfl, .of h2, fun e => a1 (by rw [← List.length_eq_zero_iff, h3.len, e]; rfl), by omega, a3, by rw [← h3.len]; exact a4, fun p hp => ?_⟩
      exact k m _ h _ _ (.tup rh hp (h3.rep _)) q
  · exact q.elim
theorem t_mulT1 {h : VH} {Q : R → VH → Prop} {s : List VV} {j : Int} (c : s ≠ [] ∧ 1 ≤ j ∧ j ≤ 1000 ∧ s.length ≤ 1000) (q : Q (.val (.tup (List.replicate j.toNat s).flatten)) h) : goMulT (.val (.tup s)) (.val (.int j)) h Q := ⟨c, q⟩
end
end VL

set_option autoImplicit false
set_option exponentiation.threshold 1000
/-! VL56: helpers about small things (Gx), parts of tuples, + of lists, repr behind more objects. -/
namespace VL
open PySem L2
theorem th_r {ns : List Int} {s : Ur} {r : VH} {k : Nat} {o : VO} (e : r[k]? = some o) : (TH ns s r)[k + 2]? = some o := e
theorem gx_str {r : VH} {f : Nat} {z : Str} (h1 : PyData.strOk z = true) (h2 : (reprText z).length ≤ 100) : Gx r (f + 1) (.str z) := ⟨h1, h2⟩
theorem get2 {r : VH} {a b : VO} : (r ++ [a] ++ [b])[r.length]? = some a := by simp
theorem gapp {r j : VH} {k : Nat} {o : VO} (e : r[k]? = some o) : (r ++ j)[k]? = some o := by rw [List.getElem?_append_left (List.getElem?_eq_some_iff.mp e).1]; exact e
theorem gxrep {r : VH} {f k : Nat} {v : VV} (g : Gx r f v) : ∀ x ∈ (List.replicate k [v]).flatten, Gx r f x := fun x hx => by
  obtain ⟨l, hl, hx⟩ := List.mem_flatten.mp hx
  rw [List.eq_of_mem_replicate hl] at hx
  rw [List.mem_singleton.mp hx]; exact g
theorem gxmp {r : VH} {f : Nat} {α : Type} {l : List α} {g : α → VV} (q : ∀ x ∈ l, Gx r f (g x)) : ∀ x ∈ l.map g, Gx r f x := fun x hx => by
  obtain ⟨y, hy, rfl⟩ := List.mem_map.mp hx
  exact q y hy
def Ext (r r' : VH) : Prop := ∃ j, r' = r ++ j
theorem Ext.refl {r : VH} : Ext r r := ⟨[], by simp⟩
theorem Ext.snoc {r r' j : VH} (e : Ext r r') : Ext r (r' ++ j) := by obtain ⟨k, rfl⟩ := e; exact ⟨k ++ j, by rw [List.append_assoc]⟩
theorem Ext.gx {r r' : VH} {f : Nat} {v : VV} (e : Ext r r') (q : Gx r f v) : Gx r' f v := by obtain ⟨k, rfl⟩ := e; exact q.app
theorem t_addRN {h : VH} {Q : R → VH → Prop} {n : Nat} {s z : List VV} (e1 : h[n]? = some (.lst s)) (l : s.length + z.length ≤ 1000) (q : Q (.new (.lst (s ++ z))) h) : goAdd (.val (.ref n)) (.new (.lst z)) h Q := by
  unfold goAdd
  simp only [lst_ref e1]
  exact ⟨Nat.le_trans l (by decide), q⟩
theorem t_addNN {h : VH} {Q : R → VH → Prop} {s z : List VV} (l : s.length + z.length ≤ 1000) (q : Q (.new (.lst (s ++ z))) h) : goAdd (.new (.lst s)) (.new (.lst z)) h Q := ⟨Nat.le_trans l (by decide), q⟩
theorem atI_mem {xs : List VV} {i : Int} (h0 : 0 ≤ i) (h : i < xs.length) : ∃ x ∈ xs, atI xs i = some x := by
  obtain ⟨a, ha, _, e⟩ := atI_map (l := xs) (f := id) h0 h
  exact ⟨a, ha, by simpa using e⟩
theorem gx_set {r : VH} {f : Nat} {xs : List VV} {i : Nat} {v : VV} (q : ∀ x ∈ xs, Gx r f x) (g : Gx r f v) : ∀ x ∈ xs.set i v, Gx r f x := fun x hx => (List.mem_or_eq_of_mem_set hx).elim (q x) fun e => e ▸ g
theorem cutI_to {xs : List VV} {k : Int} (h : 0 ≤ k) : cutVV xs none (some k) = xs.take k.toNat := by have := cut_to xs id h; simpa using this
theorem cutI_from {xs : List VV} {k : Int} (h : 0 ≤ k) : cutVV xs (some k) none = xs.drop k.toNat := by have := cut_from xs id h; simpa using this
theorem sz_le {n : Nat} (h : n ≤ 1000) : n ≤ sizeLine := Nat.le_trans h (by decide)
theorem gxI {r : VH} {f : Nat} {row : List Int} {m : Int} (h : ∀ i ∈ row, 0 ≤ i ∧ i ≤ m) (hm : m ≤ 1000000000000000000) : ∀ x ∈ row.map VV.int, Gx r (f + 1) x := fun x hx => by
  obtain ⟨i, hi, rfl⟩ := List.mem_map.mp hx
  have := h i hi
  exact gx_int (by omega)
theorem gxT {r : VH} {f n : Nat} {m : Int} {rows : List (List Int)} (T : Tab n m rows) (hm : m ≤ 1000000000000000000) : ∀ x ∈ rows.map (fun x => VV.tup (x.map .int)), Gx r (f + 2) x := fun x hx => by
  obtain ⟨y, hy, rfl⟩ := List.mem_map.mp hx
  have := T.hi
  exact gx_tup (by rw [List.length_map, T.row y hy]; omega) (gxI (T.pos y hy) hm)
theorem gx_hole {B j : VH} {f : Nat} {v : VV} {o : VO} (q : Gx (B ++ [.dic [] []] ++ j) f v) : Gx (B ++ [o] ++ j) f v := Gd.imp (h := Dr _) (fun n xs e => by
  match n, e with
  | 0, e => cases e
  | 1, e => cases e
  | n + 2, e =>
    have e : (B ++ [VO.dic [] []] ++ j)[n]? = some (.lst xs) := e
    show (B ++ [o] ++ j)[n]? = some (.lst xs)
    by_cases c : n < B.length
    · rw [List.append_assoc, List.getElem?_append_left c] at e ⊢
      exact e
    · by_cases c2 : n = B.length
      · subst c2
        simp at e
      · rw [List.append_assoc, List.getElem?_append_right (by omega)] at e ⊢
        obtain ⟨k, hk⟩ : ∃ k, n - B.length = k + 1 := ⟨n - B.length - 1, by omega⟩
        rw [hk] at e ⊢
        exact e) q
theorem th_hole {ns : List Int} {s : Ur} {B j : VH} {a o : VO} : (TH ns s (B ++ [a] ++ j)).set (B.length + 2) o = TH ns s (B ++ [o] ++ j) := by
  unfold TH TH0
  simp
theorem th_appL {ns : List Int} {s : Ur} {r l : VH} : TH ns s r ++ l = TH ns s (r ++ l) := rfl
theorem gx_lists {B j : VH} {f n : Nat} {m : Int} {rows : List (List Int)} (T : Tab n m rows) (hm : m ≤ 1000000000000000000) : ∀ x ∈ (List.range n).map (fun i : Nat => VV.ref (B.length + 2 + i)), Gx (B ++ rows.map (fun y => VO.lst (y.map .int)) ++ j) (f + 2) x := fun x hx => by
  obtain ⟨i, hi, rfl⟩ := List.mem_map.mp hx
  have hi := List.mem_range.mp hi
  have hl := T.len
  have hi2 : i < rows.length := by omega
  have hn := T.hi
  rw [show B.length + 2 + i = (B.length + i) + 2 by omega]
  refine gx_ref (xs := rows[i].map .int) ?_ (by rw [List.length_map, T.row _ (List.getElem_mem hi2)]; omega) fun z hz => ?_
  · rw [List.append_assoc, List.getElem?_append_right (by omega), Nat.add_sub_cancel_left, List.getElem?_append_left (by simpa using hi2), List.getElem?_map, List.getElem?_eq_getElem hi2]; rfl
  · obtain ⟨y, hy, rfl⟩ := List.mem_map.mp hz
    have := T.pos _ (List.getElem_mem hi2) y hy
    exact gx_int (by omega)
theorem hole_get {B j : VH} {o : VO} : (B ++ [o] ++ j)[B.length]? = some o := by simp
theorem optAll_imp {α β : Type} {F G : α → Option β} (fg : ∀ x d, F x = some d → G x = some d) : ∀ {xs : List α} {ds : List β}, optAll F xs = some ds → optAll G xs = some ds
  | [], ds, e => by rw [optAll] at e ⊢; exact e
  | x :: xs, ds, e => by
    cases e1 : F x with
    | none => rw [optAll, e1] at e; cases e
    | some d =>
      cases e2 : optAll F xs with
      | none => rw [optAll, e1, e2] at e; cases e
      | some ds' =>
        rw [optAll, e1, e2] at e
        rw [optAll, fg x d e1, optAll_imp fg e2]
        exact e
theorem dV_app {h j : VH} : ∀ (f : Nat) (v : VV) (d : PyData), dV f h v = some d → dV f (h ++ j) v = some d
  | 0, _, _, e => by cases e
  | f + 1, v, d, e => by
    unfold dV at e ⊢
    have ih : ∀ {xs : List VV} {ds : List PyData}, optAll (dV f h) xs = some ds → optAll (dV f (h ++ j)) xs = some ds := fun {xs ds} e => optAll_imp (dV_app f) e
    split at e
    · exact e
    · exact e
    · exact e
    · exact e
    · obtain ⟨ds, e1, e2⟩ := Option.map_eq_some_iff.mp e
      try dsimp only
      rw [ih e1]; exact congrArg some e2
    · obtain ⟨ds, e1, e2⟩ := Option.map_eq_some_iff.mp e
      try dsimp only
      rw [ih e1]; exact congrArg some e2
    · obtain ⟨ds, e1, e2⟩ := Option.map_eq_some_iff.mp e
      try dsimp only
      rw [ih e1]; exact congrArg some e2
    · rename_i n
      split at e
      · rename_i xs hn
        obtain ⟨ds, e1, e2⟩ := Option.map_eq_some_iff.mp e
        try dsimp only
        rw [List.getElem?_append_left (List.getElem?_eq_some_iff.mp hn).1, hn]
        try dsimp only
        rw [ih e1]; exact congrArg some e2
      · cases e
theorem th_appJ {ns : List Int} {s : Ur} {r l : VH} : TH ns s r ++ l = TH ns s (r ++ l) := rfl
theorem dV_th {ns : List Int} {s : Ur} {r j : VH} {f : Nat} {v : VV} {d : PyData} (e : dV f (TH ns s r) v = some d) : dV f (TH ns s (r ++ j)) v = some d := by
  have := dV_app (j := j) f v d e
  rw [th_appJ] at this
  exact this
theorem gd_tyt {h : VH} {f : Nat} {v : VV} (g : Gd h (f + 2) v) : TyT h v ∧ ∀ xs, v = .tup xs → xs.length ≤ 1000 := by
  refine ⟨⟨g.ty.1, fun xs e x hx => ?_, g.ty.2⟩, fun xs e => ?_⟩
  · subst e; exact (g.sub.2 x hx).ty.1
  · subst e; have := g.sub.1; omega
theorem gd_tv {h : VH} {f n : Nat} {m : Int} {rows : List (List Int)} (T : Tab n m rows) (hm : m ≤ 1000000000000000000) : Gd h (f + 3) (tv rows) := by
  have hl := T.len
  have hi := T.hi
  refine ⟨by rw [List.length_map]; omega, fun x hx => ?_⟩
  obtain ⟨y, hy, rfl⟩ := List.mem_map.mp hx
  refine ⟨by rw [List.length_map, T.row y hy]; omega, fun z hz => ?_⟩
  obtain ⟨i, hi, rfl⟩ := List.mem_map.mp hz
  have := T.pos y hy i hi
  show i.natAbs < 10 ^ 61
  omega
end VL

set_option autoImplicit false
/-! VL57: the chain of calls over two middles (point 14): its calls are unlike. -/
namespace VL
section
variable {f : Int → Option (Int × Int × Int)} {g : Int → Int → Int → Option Int} {js : List Int} {b here there : Int}
/-- what is held is what the calls tell -/
structure Cns (f : Int → Option (Int × Int × Int)) (g : Int → Int → Int → Option Int) (js : List Int) : Prop where
  to0 : ∀ k a b m, f k = some (a, b, m) → g 0 a m = some k
  to1 : ∀ k a b m, f k = some (a, b, m) → g 1 b m = some k
  of : ∀ s l m k, g s l m = some k → ∃ a b, f k = some (a, b, m) ∧ ((s = 0 ∧ l = a) ∨ (s = 1 ∧ l = b))
  mem : ∀ k, (f k).isSome = true ↔ k ∈ js
  nd : js.Nodup
/-- the call k goes over m, and ends at l on the side s -/
def En (f : Int → Option (Int × Int × Int)) (k s l m : Int) : Prop := ∃ a b, f k = some (a, b, m) ∧ ((s = 0 ∧ l = a) ∨ (s = 1 ∧ l = b))
/-- what the walk has met (the last first), and where it stands: the side, the line, the middle it looks at, the other one -/
inductive Pth (f : Int → Option (Int × Int × Int)) (b here there : Int) : List Int → Int → Int → Int → Int → Prop
  | nil : Pth f b here there [] 1 b here there
  | step {ks : List Int} {s l l2 x y k : Int} : Pth f b here there ks s l x y → En f k s l x → En f k (1 - s) l2 x → Pth f b here there (k :: ks) (1 - s) l2 y x
theorem Pth.mid {ks : List Int} {s l x y : Int} (p : Pth f b here there ks s l x y) : (s = 1 ∧ x = here ∧ y = there) ∨ (s = 0 ∧ x = there ∧ y = here) := by
  induction p with
  | nil => exact .inl ⟨rfl, rfl, rfl⟩
  | step _ _ _ ih =>
    rcases ih with ⟨a, c, d⟩ | ⟨a, c, d⟩
    · exact .inr ⟨by omega, d, c⟩
    · exact .inl ⟨by omega, d, c⟩
theorem En.held {k s l m : Int} (c : Cns f g js) (e : En f k s l m) : g s l m = some k := by
  obtain ⟨a, b, h, ⟨rfl, rfl⟩ | ⟨rfl, rfl⟩⟩ := e
  · exact c.to0 _ _ _ _ h
  · exact c.to1 _ _ _ _ h
theorem Cns.en {k s l m : Int} (c : Cns f g js) (e : g s l m = some k) : En f k s l m := c.of _ _ _ _ e
theorem En.mid {k s l m s' l' m' : Int} (e : En f k s l m) (e' : En f k s' l' m') : m = m' := by
  obtain ⟨a, b, h, _⟩ := e
  obtain ⟨a', b', h', _⟩ := e'
  rw [h] at h'; cases h'; rfl
theorem En.line {k s l m l' m' : Int} (e : En f k s l m) (e' : En f k s l' m') : l = l' := by
  obtain ⟨a, b, h, q⟩ := e
  obtain ⟨a', b', h', q'⟩ := e'
  rw [h] at h'; cases h'
  rcases q with ⟨h1, rfl⟩ | ⟨h1, rfl⟩ <;> rcases q' with ⟨h2, rfl⟩ | ⟨h2, rfl⟩
  · rfl
  · exact absurd (h1.symm.trans h2) (by decide)
  · exact absurd (h2.symm.trans h1) (by decide)
  · rfl
/-- two calls over one middle have unlike ends -/
theorem Cns.apart {i j a a' b b' m : Int} (c : Cns f g js) (hi : f i = some (a, b, m)) (hj : f j = some (a', b', m)) (n : i ≠ j) : a ≠ a' ∧ b ≠ b' := by
  constructor
  · rintro rfl
    have := (c.to0 _ _ _ _ hi).symm.trans (c.to0 _ _ _ _ hj)
    cases this
    exact n rfl
  · rintro rfl
    have := (c.to1 _ _ _ _ hi).symm.trans (c.to1 _ _ _ _ hj)
    cases this
    exact n rfl
/-- how each call was entered -/
theorem Pth.ent {ks : List Int} {s l x y : Int} (p : Pth f b here there ks s l x y) : (ks = [] ∧ s = 1 ∧ l = b ∨ ∃ k ∈ ks, En f k s l y) ∧
    ∀ k ∈ ks, ∃ σ lam m m', ((σ = 1 ∧ m = here ∧ m' = there) ∨ (σ = 0 ∧ m = there ∧ m' = here)) ∧ En f k σ lam m ∧ ((σ = 1 ∧ lam = b) ∨ ∃ q ∈ ks, En f q σ lam m') := by
  induction p with
  | nil => exact ⟨.inl ⟨rfl, rfl, rfl⟩, fun k hk => by cases hk⟩
  | @step ks s l l2 x y k p e1 e2 ih =>
    refine ⟨.inr ⟨k, by simp, e2⟩, fun q hq => ?_⟩
    rcases List.mem_cons.mp hq with rfl | hq
    · refine ⟨s, l, x, y, p.mid, e1, ?_⟩
      rcases ih.1 with ⟨_, h1, h2⟩ | ⟨k', hk', e⟩
      · exact .inl ⟨h1, h2⟩
      · exact .inr ⟨k', by simp [hk'], e⟩
    · obtain ⟨σ, lam, m, m', a, e, c⟩ := ih.2 q hq
      exact ⟨σ, lam, m, m', a, e, c.imp id fun ⟨q', h1, h2⟩ => ⟨q', by simp [h1], h2⟩⟩
/-- no call that the walk has met stands where it looks -/
theorem Pth.fresh {ks : List Int} {s l x y : Int} (c : Cns f g js) (hn : here ≠ there) (fr : g 1 b there = none) (p : Pth f b here there ks s l x y) : ∀ k ∈ ks, ¬ En f k s l x := by
  induction p with
  | nil => exact fun k hk => by cases hk
  | @step ks s l l2 x y k p e1 e2 ih =>
    intro q hq e
    have md := p.mid
    rcases List.mem_cons.mp hq with rfl | hq
    · have := e2.mid e
      rcases md with ⟨_, h1, h2⟩ | ⟨_, h1, h2⟩ <;> subst h1 h2
      · exact hn this
      · exact hn this.symm
    · obtain ⟨σ, lam, m, m', a, eq, cc⟩ := p.ent.2 q hq
      have hm : m = y := eq.mid e
      have hs : σ = 1 - s ∧ m' = x := by
        rcases md with ⟨h1, h2, h3⟩ | ⟨h1, h2, h3⟩ <;> rcases a with ⟨a1, a2, a3⟩ | ⟨a1, a2, a3⟩
        · exact absurd (a2.symm.trans (hm.trans h3)) hn
        · exact ⟨by omega, a3.trans h2.symm⟩
        · exact ⟨by omega, a3.trans h2.symm⟩
        · exact absurd ((a2.symm.trans (hm.trans h3)).symm) hn
      obtain ⟨rfl, rfl⟩ := hs
      have hl : lam = l2 := eq.line e
      subst hl
      rcases cc with ⟨h1, h2⟩ | ⟨q', hq', e'⟩
      · subst h2
        rw [h1] at e2
        have g1 := e2.held c
        have : m' = there := by
          rcases a with ⟨_, _, a3⟩ | ⟨a1, _, _⟩
          · exact a3
          · rw [h1] at a1; cases a1
        rw [this, fr] at g1
        cases g1
      · have g1 := e2.held c
        rw [e'.held c] at g1
        cases g1
        exact ih _ hq' e1
theorem Pth.nodup {ks : List Int} {s l x y : Int} (c : Cns f g js) (hn : here ≠ there) (fr : g 1 b there = none) (p : Pth f b here there ks s l x y) : ks.Nodup := by
  induction p with
  | nil => exact .nil
  | step p e1 e2 ih => exact List.nodup_cons.mpr ⟨fun h => p.fresh c hn fr _ h e1, ih⟩
theorem Pth.sub {ks : List Int} {s l x y : Int} (c : Cns f g js) (p : Pth f b here there ks s l x y) : ∀ k ∈ ks, k ∈ js := by
  induction p with
  | nil => exact fun k hk => by cases hk
  | step p e1 e2 ih =>
    intro q hq
    rcases List.mem_cons.mp hq with rfl | hq
    · obtain ⟨a, b, h, _⟩ := e1
      exact (c.mem _).mp (by rw [h]; rfl)
    · exact ih q hq
/-- how each call was left -/
theorem Pth.lft {ks : List Int} {s l x y : Int} (p : Pth f b here there ks s l x y) :
    ∀ k ∈ ks, ∃ σ lam m m', ((σ = 1 ∧ m = here ∧ m' = there) ∨ (σ = 0 ∧ m = there ∧ m' = here)) ∧ En f k (1 - σ) lam m ∧ ((1 - σ = s ∧ lam = l ∧ m' = x) ∨ ∃ q ∈ ks, En f q (1 - σ) lam m') := by
  induction p with
  | nil => exact fun k hk => by cases hk
  | @step ks s l l2 x y k p e1 e2 ih =>
    intro q hq
    rcases List.mem_cons.mp hq with rfl | hq
    · exact ⟨s, l2, x, y, p.mid, e2, .inl ⟨rfl, rfl, rfl⟩⟩
    · obtain ⟨σ, lam, m, m', a, e, cc⟩ := ih q hq
      refine ⟨σ, lam, m, m', a, e, ?_⟩
      rcases cc with ⟨h1, h2, h3⟩ | ⟨q', h1, h2⟩
      · subst h2 h3
        rw [← h1] at e1
        exact .inr ⟨k, by simp, e1⟩
      · exact .inr ⟨q', by simp [h1], h2⟩
/-- what a call of the chain would be moved to is free, or held by a call of the chain -/
theorem Pth.closed {ks : List Int} {s l x y : Int} (c : Cns f g js) (fr : g 1 b there = none) (ed : g s l x = none) (p : Pth f b here there ks s l x y) {k σ lam m m' q : Int} (hk : k ∈ ks) (hs : σ = 0 ∨ σ = 1) (hm : (m = here ∧ m' = there) ∨ (m = there ∧ m' = here)) (hn : here ≠ there) (e : En f k σ lam m) (hq : g σ lam m' = some q) : q ∈ ks := by
  obtain ⟨s1, l1, m1, m1', a1, e1, c1⟩ := p.ent.2 k hk
  obtain ⟨s2, l2, m2, m2', a2, e2, c2⟩ := p.lft k hk
  have h1 : m = m1 := e.mid e1
  have h2 : m = m2 := e.mid e2
  subst h1 h2
  have h3 : m1' = m' ∧ m2' = m' ∧ s1 = s2 ∧ (s1 = 0 ∨ s1 = 1) := by
    rcases hm with ⟨b1, b2⟩ | ⟨b1, b2⟩ <;> rcases a1 with ⟨d1, d2, d3⟩ | ⟨d1, d2, d3⟩ <;> rcases a2 with ⟨f1, f2, f3⟩ | ⟨f1, f2, f3⟩
    all_goals first
      | exact absurd (b1.symm.trans d2) hn
      | exact absurd (d2.symm.trans b1) hn
      | exact absurd (b1.symm.trans f2) hn
      | exact absurd (f2.symm.trans b1) hn
      | exact ⟨d3.trans b2.symm, f3.trans b2.symm, by omega, by omega⟩
  obtain ⟨h4, h5, h6, h7⟩ := h3
  rw [h4] at a1 c1
  rw [h5] at c2
  rw [← h6] at e2 c2
  by_cases h : σ = s1
  · subst h
    have hl : lam = l1 := e.line e1
    subst hl
    rcases c1 with ⟨z1, z2⟩ | ⟨z, z1, z2⟩
    · subst z2
      rw [z1] at hq
      have : m' = there := by
        rcases a1 with ⟨_, _, d3⟩ | ⟨d1, _, _⟩
        · exact d3
        · rw [z1] at d1; cases d1
      rw [this, fr] at hq
      cases hq
    · rw [z2.held c] at hq
      cases hq
      exact z1
  · have hs1 : σ = 1 - s1 := by omega
    rw [← hs1] at e2 c2
    have hl : lam = l2 := e.line e2
    subst hl
    rcases c2 with ⟨z1, z2, z3⟩ | ⟨z, z1, z2⟩
    · rw [z1, z2, z3, ed] at hq
      cases hq
    · rw [z2.held c] at hq
      cases hq
      exact z1
/-- the first call of the chain is the one that stands at the start -/
theorem Pth.first {ks : List Int} {s l x y : Int} (p : Pth f b here there ks s l x y) : ks = [] ∧ s = 1 ∧ l = b ∧ x = here ∨ ∃ q ∈ ks, En f q 1 b here := by
  induction p with
  | nil => exact .inl ⟨rfl, rfl, rfl, rfl⟩
  | @step ks s l l2 x y k p e1 e2 ih =>
    rcases ih with ⟨_, rfl, rfl, rfl⟩ | ⟨q, h1, h2⟩
    · exact .inr ⟨k, by simp, e1⟩
    · exact .inr ⟨q, by simp [h1], h2⟩
/-- so the walk ends -/
theorem Pth.len {ks : List Int} {s l x y : Int} (c : Cns f g js) (hn : here ≠ there) (fr : g 1 b there = none) (p : Pth f b here there ks s l x y) : ks.length ≤ js.length :=
  nodup_le ks js (p.nodup c hn fr) (p.sub c)
end
end VL

set_option autoImplicit false
/-! VL58: dict comprehensions, keys ints and texts, or tuples of these. -/
namespace VL
open PySem PySem.Spec PyProof.Rows L2

section
variable {X : Cx} {pins : List (Addr × Obj)} {σ : L2.St} {H H' : Hp} {s : Shared}
theorem dcg_put {D : Addr} {y z : V} {u r : Value} {Q : Unit → Shared → Prop} {E : Value → Shared → Prop} (hu : X.A.units + 1 < cLine) (I : L2.Inv X pins σ H s) (p : DPut H D y z H') (ry : RelV y u) (rz : RelV z r)
    (k : ∀ s', L2.Inv X pins σ H' s' → Q () s') : wpAny (model X.prog X.w) X.A (dictSet D u r) Q E s := by
  rcases p with ⟨kvs, q, e, rfl, hl, rfl⟩ | ⟨kvs, q, b, e, rfl, hb, hl, rfl⟩
  · exact d_dictSet I e hl ry rz k
  · obtain rfl : u = Value.ref b := ry
    obtain ⟨hz, hm, xs, rel, dd⟩ := dt_of I.hok e
    have hx : xs.length = kvs.length := (Paired.length rel).symm
    refine wpAny_dictSet_heap (show (tupleKind (mixKind X.prog X.w)).room X.A from Nat.lt_of_le_of_lt (Nat.le_succ _) hu) (key_of I.hok hb) dd (fun h2 d2 sb => k _ (d_write I (by rw [e]; trivial) sb ?_ ?_)) (by omega)
    · exact d2.imp fun o w => let ⟨_, _, ho, _⟩ := w; ho
    · obtain ⟨o, es, ep, c1, c2, c3, c4, _, c5⟩ := d2
      have more := length_putK kvs q z
      refine ⟨by omega, hm, _, KT.keeps (rel.put q hb rz) (fun c ys ec => ?_), o, es, ep, c1, c2, c3, c4, c5⟩
      have ne : c ≠ D := ne_of ec e fun w => nomatch w
      rw [upd_ne ne]; exact ec
/-- the meaning: the dict is laid as o0, each turn puts to it -/
def tDcg (o0 : HO) (wi : TI) (g : TG) (tt : TT) (tk tv : TE) (vs : List Nat) : TE := fun σ H Q => wi σ H fun J H1 => ∀ D, H1 D = none →
  ∃ W : Nat → Nat → Hp → Prop, (∃ m, W 0 m (upd H1 D o0)) ∧ ∀ i m H, W i m H →
    (J.stop i H ∧ Q (.ref D) H) ∨
    (J.go i H ∧ ∃ Nx : Hp → Prop, (∀ H', Nx H' → ∃ m', m' < m ∧ W (i + 1) m' H') ∧
      ∀ x H', J.yld i H x H' → g x (L2.wipe σ vs) H' fun σ2 H2 => L2.wipe σ2 vs = L2.wipe σ vs ∧ tt σ2 H2 fun b H3 =>
        if b = true then tk σ2 H3 fun y H4 => tv σ2 H4 fun z H5 => ∃ H6, DPut H5 D y z H6 ∧ Nx H6 else Nx H3)
/-- a new empty dict, of either kind -/
def Emp (o0 : HO) : Prop := o0 = .dK [] ∨ o0 = .dT []
theorem Emp.ok {o0 : HO} (e : Emp o0) (h : Heap) (hb : sysModules < h.objs.size) {P : Program} {w : World} {H : Hp} : ObjOk P w H (h.push { cls := .type "dict", data := .dict #[] }) h.objs.size o0 := by
  rcases e with rfl | rfl
  · exact dk_empty h hb
  · exact dt_empty h hb
/-- what stands of the iterator's own things at each turn -/
structure Dcs (X : Cx) (fp : List Addr) (H : Hp) : Prop where
  no : ∀ b ∈ fp, H b = none
theorem dcg_core {o0 : HO} {Q : VK} {kx vx tg iter : Expr} {ifs : List Expr} {scope : Scope} {own : List (Str × Nat)} {pos pos' : Pos} {wi : TI} {g : TG} {tt : TT} {tk tv : TE} {use : Option (Value → Sem Unit)} {Qf : Value → Shared → Prop}
    (hu : X.A.units + 1 < cLine) (em : Emp o0) (hc : X.calm = true) (hN : X.N.Nodup) (I : L2.Inv X pins σ H s) (hi : PI X tg iter wi) (ok : BlkOk X.N X.env.scope scope own)
    (hg : ∀ s H C cl fp, PG (bx X scope s H C cl fp) tg g) (ht : ∀ s H C cl fp, PTs (bx X scope s H C cl fp) ifs tt)
    (hk : ∀ s H C cl fp, PE (bx X scope s H C cl fp) kx tk) (he : ∀ s H C cl fp, PE (bx X scope s H C cl fp) vx tv) (hs : ∀ x, foldedSetIterable iter X.env x = pure x)
    (h : tDcg o0 wi g tt tk tv (own.map (·.2)) σ H Q)
    (out : ∀ D C s' m H', L2.Inv X pins σ H' s' → Q (.ref D) H' → s'.heap.Ns C m → FpOk X pins H' C → compPost (model X.prog X.w) X.A X.xe use Qf (.ref D) C (.ok .next) s') :
    wpAny (model X.prog X.w) X.A (comprehension (.DictComp kx vx [⟨tg, iter, ifs, 0⟩] scope pos) scope X.env pos' newDict false (eval iter X.env) use) Qf X.xe s := by
  have cells : ∀ y ∈ scope.names, y.2 = .free → ∃ c, X.env.cells.lookup y.1 = some c := fun y hy e =>
    (ok.free y hy e).elim (fun k => I.ok.has _ (.inl k)) fun k => I.ok.has _ (.inr k)
  refine wpAny_comprehension_free (use := use) rfl hs (closure_ok cells) ok.kind (fun y hy e => (ok.uniq y hy).trans (congrArg some e)) (thn (hi.run pins s σ H _ I h) fun xv t0 hx => thn hx fun itv t1 h1 => ?_)
  obtain ⟨it, fp, tn, J, H2, rfl, I2, T, at0, own0, q⟩ := h1
  refine wpAny_newObj_type (newEnv_comp ?_)
  obtain ⟨W, ⟨m0, w0⟩, turn⟩ := q _ (I2.hok.fresh (Nat.le_refl _))
  generalize hD : t1.heap.objs.size = D at w0 turn ⊢
  have szD : t1.heap.objs.size ≤ D := Nat.le_of_eq hD
  -- the dict stands
  generalize hu1 : ({ t1 with heap := t1.heap.push { cls := .type "dict", data := .dict #[] } } : Shared) = u1
  have eu : u1.heap = t1.heap.push { cls := .type "dict", data := .dict #[] } := by rw [← hu1]
  have J1 : L2.Inv X pins σ (upd H2 D o0) u1 := hu1 ▸ I2.laid (t' := t1.toks) (fun b o e => Heap.get?_push_of_some _ e) szD (hD ▸ em.ok t1.heap I2.big)
  have fsz : ∀ b ∈ fp, b < t1.heap.objs.size := fun b hb => (T.obj _ _ at0 b hb).elim fun o w => Heap.lt_size w.1
  have fok : ∀ b ∈ fp, FpOk X pins (upd H2 D o0) b ∧ b < u1.heap.objs.size := fun b hb =>
    ⟨⟨(upd_ne (show b ≠ D from hD ▸ Nat.ne_of_lt (fsz b hb))).trans (own0 b hb).1, (own0 b hb).2⟩, by
      rw [eu, Heap.size_push]; exact Nat.lt_succ_of_lt (fsz b hb)⟩
  have at1 : tn 0 u1.heap := T.keep _ _ _ at0 fun b _ o e => by rw [eu]; exact Heap.get?_push_of_some _ e
  have J2 := block_start J1 ok hN fok
  generalize hcl : cellsFrom (u1.heap.objs.size + 1) scope.names (cloFrom X.env.cells scope.names []) = cl at J2
  have pg : PG (X.blk u1 (upd H2 D o0) scope (compEnvC scope cl u1.heap.objs.size X.env) fp) tg g := hg u1 (upd H2 D o0) u1.heap.objs.size cl fp
  have pt : PTs (X.blk u1 (upd H2 D o0) scope (compEnvC scope cl u1.heap.objs.size X.env) fp) ifs tt := ht u1 (upd H2 D o0) u1.heap.objs.size cl fp
  have pk : PE (X.blk u1 (upd H2 D o0) scope (compEnvC scope cl u1.heap.objs.size X.env) fp) kx tk := hk u1 (upd H2 D o0) u1.heap.objs.size cl fp
  have pv : PE (X.blk u1 (upd H2 D o0) scope (compEnvC scope cl u1.heap.objs.size X.env) fp) vx tv := he u1 (upd H2 D o0) u1.heap.objs.size cl fp
  show codeAny _ _ (.compStart (.DictComp kx vx [⟨tg, iter, ifs, 0⟩] scope pos) 0 (.ref it) (.ref D) (compEnvC scope cl u1.heap.objs.size X.env)) (compPost (model X.prog X.w) X.A X.xe use Qf (.ref D) u1.heap.objs.size) { u1 with heap := pushCells (u1.heap.push { cls := .type "dict", data := .dict #[] }) scope.names }
  have nf0 : ∀ b ∈ fp, (upd H2 D o0) b = none := fun b hb => (fok b hb).1.1
  have at2 : tn 0 (pushCells (u1.heap.push { cls := .type "dict", data := .dict #[] }) scope.names) := T.keep _ _ _ at1 fun b _ o e => pushCells_keeps _ _ _ _ (Heap.get?_push_of_some _ e)
  generalize hL : u1.heap.objs.size = L at *
  have eL : (compEnvC scope cl L X.env).locals = L := rfl
  generalize hce : compEnvC scope cl L X.env = ce at *
  generalize hH1 : upd H2 D o0 = H1 at *
  generalize hs2 : ({ u1 with heap := pushCells (u1.heap.push { cls := .type "dict", data := .dict #[] }) scope.names } : Shared) = s2 at *
  have at3 : tn 0 s2.heap := by rw [← hs2]; exact at2
  -- what the iterator's things are, in the block
  have fpk : ∀ {σ' : L2.St} {H' : Hp} {s' : Shared}, L2.Inv (X.blk u1 H1 scope ce fp) [] σ' H' s' → (∀ b ∈ fp, H' b = none) → ∀ b ∈ fp, FpOk (X.blk u1 H1 scope ce fp) [] H' b := fun {σ' H' s'} K nn b hb =>
    ⟨nn b hb, (K.ok.exf b hb).1, K.ok.exfs b hb, .inl hb, fun x c e => (K.ok.exf b hb).2 x c e, fun p hp => absurd (show p ∈ ([] : List (Addr × Obj)) ++ [] from hp) (by simp)⟩
  have loop : codeAny (model X.prog X.w) X.A (.compLoop (.DictComp kx vx [⟨tg, iter, ifs, 0⟩] scope pos) 0 (.ref it) (.ref D) ce) (compPost (model X.prog X.w) X.A X.xe use Qf (.ref D) L) s2 := by
    refine compLoop_anyD (fun n t => ∃ i G, L2.Inv (X.blk u1 H1 scope ce fp) [] (L2.wipe σ (own.map (·.2))) G t ∧ tn i t.heap ∧ (∀ b ∈ fp, G b = none) ∧ W i n G) (fun n t hyp => ?_) m0 ⟨0, H1, J2, at3, nf0, w0⟩
    obtain ⟨i, G, K, ati, nf, w⟩ := hyp
    rcases turn i n G w with ⟨stop, fin⟩ | ⟨go, Nx, nx, step⟩
    · refine thnF (T.done (X.blk u1 H1 scope ce fp) rfl rfl rfl hc i [] t _ G (fun _ _ => False) K (fpk K nf) ati stop) fun r t' ⟨er, K'⟩ => ?_
      subst er
      have K2 : L2.Inv X pins σ G t' := J1.call' (ch := fp) K'.os K'.base K'.hok K'.bare fun b hb => let f := (fok b hb).1.2; ⟨f.2.2.1, f.1, f.2.2.2.1, f.2.2.2.2⟩
      have free : G L = none := eL ▸ K'.free
      obtain ⟨mm, hm, _⟩ := K'.loc
      exact out D L t' mm G K2 fin (eL ▸ (show t'.heap.Ns ce.locals mm from hm)) (J1.fpOk (Nat.le_of_eq hL) free)
    · refine thnF (T.item (X.blk u1 H1 scope ce fp) rfl rfl rfl hc i [] t _ G (fun _ _ => False) K (fpk K nf) ati go) fun r t2 ⟨u, er, hu2⟩ => ?_
      subst er
      refine thnF hu2 fun _ t3 ⟨x, G3, K3, rx, yy, at4, nf3⟩ => ?_
      have K3p := K3.pinned (fpk K3 nf3) (T.obj _ _ at4)
      refine thnF (pg.run _ t3 _ G3 x u _ K3p rx (step x G3 yy)) fun _ t4 ⟨σ4, G4, K4, ew, q4⟩ => ?_
      have back : ∀ {t' : Shared} {G' : Hp}, L2.Inv (X.blk u1 H1 scope ce fp) ([] ++ pinsAt fp t3.heap) σ4 G' t' → Nx G' → ∃ m', m' < n ∧ ∃ i G, L2.Inv (X.blk u1 H1 scope ce fp) [] (L2.wipe σ (own.map (·.2))) G t' ∧ tn i t'.heap ∧ (∀ b ∈ fp, G b = none) ∧ W i m' G := fun {t' G'} K' e => by
        obtain ⟨m', lt, w'⟩ := nx G' e
        have still : ∀ b ∈ fp, ∀ o, t3.heap.get? b = some o → t'.heap.get? b = some o ∧ G' b = none := fun b hb o e =>
          (K'.pin (b, o) (List.mem_append_right _ (List.mem_append_right _ (mem_pinsAt hb e)))).imp id And.left
        refine ⟨m', lt, i + 1, G', K'.unpinned.weak (by rw [← ew, L2.wipe_length]) (fun j v e => ?_), T.keep _ _ _ at4 fun b hb o e => (still b hb o e).1, fun b hb => ?_, w'⟩
        · exact (wipe_some (ew ▸ e)).1
        · obtain ⟨o, e, _⟩ := T.obj _ _ at4 b hb
          exact (still b hb o e).2
      refine thnF (pt.run _ t4 σ4 G4 _ K4 q4) fun b t5 ⟨G5, K5, q5⟩ => ?_
      cases b with
      | false =>
        rw [if_neg Bool.false_ne_true] at q5 ⊢
        exact back K5 q5
      | true =>
        rw [if_pos rfl] at q5 ⊢
        refine thnF (pk.run _ t5 σ4 G5 _ K5 q5) fun kv t6 ⟨y, G6, K6, ry, q6⟩ => ?_
        refine thnF (pv.run _ t6 σ4 G6 _ K6 q6) fun vv t7 ⟨z, G7, K7, rz, G8, dp, nn⟩ => ?_
        exact dcg_put (X := X.blk u1 H1 scope ce fp) hu K7 dp ry rz fun t8 K8 => back K8 nn
  exact codeAny_compStart_dict loop (T.self X.A 0 _ _ _ at3 loop)
/-- as a value -/
theorem pe_dcg {o0 : HO} {kx vx tg iter : Expr} {ifs : List Expr} {scope : Scope} {own : List (Str × Nat)} {pos : Pos} {wi : TI} {g : TG} {tt : TT} {tk tv : TE} (hu : X.A.units + 1 < cLine) (em : Emp o0) (hc : X.calm = true) (hN : X.N.Nodup) (hi : PI X tg iter wi) (ok : BlkOk X.N X.env.scope scope own)
    (hg : ∀ s H C cl fp, PG (bx X scope s H C cl fp) tg g) (ht : ∀ s H C cl fp, PTs (bx X scope s H C cl fp) ifs tt)
    (hk : ∀ s H C cl fp, PE (bx X scope s H C cl fp) kx tk) (he : ∀ s H C cl fp, PE (bx X scope s H C cl fp) vx tv) (hs : ∀ x, foldedSetIterable iter X.env x = pure x := by intro _; rfl) :
    PE X (.DictComp kx vx [⟨tg, iter, ifs, 0⟩] scope pos) (tDcg o0 wi g tt tk tv (own.map (·.2))) := ⟨fun pins s σ H Q I h => by
  rw [arm_eval_DictComp]
  refine dcg_core hu em hc hN I hi ok hg ht hk he hs h fun D C s' m H' K q hn f => ⟨m, hn, fun h2 sb => ⟨.ref D, H', ?_, rfl, q⟩⟩
  exact K.turned (t' := s'.toks) (fun b o hb e => (sb.2 b hb).trans e) f.1 f.2.1 f.2.2.2.1 f.2.2.2.2.1 f.2.2.2.2.2⟩
/-- stored to a name of the def -/
theorem ps_dcg {o0 : HO} {i : Nat} {y : Str} {py : Pos} {kx vx tg iter : Expr} {ifs : List Expr} {scope : Scope} {own : List (Str × Nat)} {pos spos : Pos} {wi : TI} {g : TG} {tt : TT} {tk tv : TE} (hu : X.A.units + 1 < cLine) (em : Emp o0) (hc : X.calm = true) (hN : X.N.Nodup) (hy : X.N[i]? = some y) (hyl : X.env.scope.names.lookup y = some .local)
    (hsw : swapsWith (.DictComp kx vx [⟨tg, iter, ifs, 0⟩] scope pos) (some (.Name y py)) spos.line X.env = pure true) (hi : PI X tg iter wi) (ok : BlkOk X.N X.env.scope scope own)
    (hg : ∀ s H C cl fp, PG (bx X scope s H C cl fp) tg g) (ht : ∀ s H C cl fp, PTs (bx X scope s H C cl fp) ifs tt)
    (hk : ∀ s H C cl fp, PE (bx X scope s H C cl fp) kx tk) (he : ∀ s H C cl fp, PE (bx X scope s H C cl fp) vx tv) (hs : ∀ x, foldedSetIterable iter X.env x = pure x := by intro _; rfl) :
    PS X (.Assign [.Name y py] (.DictComp kx vx [⟨tg, iter, ifs, 0⟩] scope pos) spos) (tAsg (tDcg o0 wi g tt tk tv (own.map (·.2))) (L2.gName i)) := ⟨fun pins s σ H D I h => by
  rw [exec_Assign_Name_used _ _ _ _ hsw]
  have h' : tDcg o0 wi g tt tk tv (own.map (·.2)) σ H (fun x H1 => L2.gName i x σ H1 D.nx) := h
  refine wpAny_bind (wpAny_standAt (wpAny_bind ?_))
  show wpAny _ X.A (do let _ ← comprehension (.DictComp kx vx [⟨tg, iter, ifs, 0⟩] scope pos) scope X.env (firstIterPos [⟨tg, iter, ifs, 0⟩] pos) newDict false (eval iter X.env) (some (assign (.Name y py) X.env))) _ _ s
  refine wpAny_bind (thn (dcg_core (Qf := fun _ s' => SP X pins D .next s') hu em hc hN I hi ok hg ht hk he hs h' fun L C s' m G K q hn f => ?_) fun _ s' hq => wpAny_pure (wpAny_pure hq))
  show wpAny _ _ (assign (.Name y py) X.env (.ref L)) _ _ _
  refine wpAny_assign_Name (store_ok2 (v := V.ref L) K hN hy (.inl hyl) rfl (fun s2 K2 ⟨a, sb, ha⟩ => ?_) (.inr hyl))
  have ne : C ≠ a := ha.elim (fun z => z ▸ f.2.1) fun z e => f.2.2.2.2.1 y a z e.symm
  exact ⟨m, hn.sameBut sb ne, fun h3 sb3 => ⟨_, G, K2.turned (t' := s2.toks) (fun b o hb e => (sb3.2 b hb).trans e) f.1 f.2.1 f.2.2.2.1 f.2.2.2.2.1 f.2.2.2.2.2, q⟩⟩⟩
end
end VL

set_option autoImplicit false
/-! VL59: dict comprehensions over the values. -/
namespace VL
open PySem L2
/-- the kind of the empty dict -/
def empO : HO → VO
  | .dT _ => .dtu [] []
  | _ => .dic [] []
def dcL (n0 : Nat) (st : VH → Prop) (g : GG) (gt : GT) (gk gv : GE) (ρw : VL.Env) (Q : R → VH → Prop) : List VV → VO → VH → Prop
  | [], o, h => st h ∧ Q (.new o) h
  | x :: xs, o, h => st h ∧ g x ρw fun ρ1 => ∃ M : Option (VV × VV) → VH → Prop, (gt ρ1 h fun b h1 => if b = true then gk ρ1 h1 fun r h2 => put r h2 fun u h3 => gv ρ1 h3 fun s h4 => put s h4 fun v h5 => M (some (u, v)) h5 else M none h1) ∧
      (∀ u v h5, M (some (u, v)) h5 → ∃ o', dPutO o u v = some o' ∧ sizeO o < sizeLine ∧ dcL n0 st g gt gk gv ρw Q xs o' h5) ∧ ∀ h1, M none h1 → dcL n0 st g gt gk gv ρw Q xs o h1
def gDc (o0 : HO) (gi : GI) (g : GG) (gt : GT) (gk gv : GE) (vs : List Nat) : GE := fun ρ h Q => gi ρ h fun xs st h1 => dcL h1.length st g gt gk gv (wipeV ρ vs) Q xs (empO o0) h1
section
variable {K : PySem.W.Frag} {m m1 : List Addr} {H H1 : Hp} {h : VH}
theorem dcL_st {n0 : Nat} {st : VH → Prop} {g : GG} {gt : GT} {gk gv : GE} {ρw : VL.Env} {Q : R → VH → Prop} {xs : List VV} {o : VO} (q : dcL n0 st g gt gk gv ρw Q xs o h) : st h := by
  cases xs <;> exact q.1
/-- an object that isn't kept is changed -/
theorem out_t {D : Addr} {u : HO} (c : Chg H D) {v : VV} {x : V} (r : RelT K m H v x) : RelT K m (upd H D u) v x := by
  induction r with
  | non => exact .non
  | bl => exact .bl
  | int => exact .int
  | str => exact .str
  | tup s l _ ih => exact .tup (tupH_upd c s) l ih
  | rol s l _ ih => exact .rol (sqR_upd c s) l ih
  | ref q => exact .ref q
  | ftp s l _ ih => exact .ftp (ftT_upd c s) l ih
theorem out_s {D : Addr} {u : HO} (c : Chg H D) {v : List VV} {x : List V} (r : Rels K m H v x) : Rels K m (upd H D u) v x := ⟨r.len, fun i a b p q => out_t c (r.at_ i a b p q)⟩
theorem out_h {D : Addr} {u : HO} (c : Chg H D) (cx : ∀ ys, H D ≠ some (.xd ys)) (nd : D ∉ m) (r : RH K m h H) : RH K m h (upd H D u) := ⟨r.nd, r.len, fun n ob p e1 e2 => by
  have ne : p ≠ D := fun q => nd (q ▸ List.mem_of_getElem? e2)
  have ro := r.obj n ob p e1 e2
  cases ob with
  | lst xs => obtain ⟨ys, p1, q1⟩ := ro; exact ⟨ys, by rw [upd_ne ne]; exact p1, out_s c q1⟩
  | dic ks vs => obtain ⟨ys, p1, p2, q1⟩ := ro; exact ⟨ys, by rw [upd_ne ne]; exact p1, p2, out_s c q1⟩
  | dtu ks vs => obtain ⟨ys, p1, p2, q1⟩ := ro; exact ⟨ys, by rw [upd_ne ne]; exact p1, p2, out_s c q1⟩
  | fdt ob kvs vs => obtain ⟨p1, q1⟩ := ro; exact ⟨by rw [upd_ne ne]; exact p1, out_s c q1⟩
  | exc C fs vs => obtain ⟨dx, ys, p1, px, nx, p2, q1⟩ := ro; exact ⟨dx, ys, by rw [upd_ne ne]; exact p1, by rw [upd_ne (fun z : dx = D => cx ys (by rw [← z]; exact px))]; exact px, nx, p2, out_s c q1⟩
  | ins C fs vs => obtain ⟨dx, ys, p1, p2, q1⟩ := ro; exact ⟨dx, ys, by rw [upd_ne ne]; exact p1, p2, out_s c q1⟩⟩
theorem out_e {D : Addr} {u : HO} (c : Chg H D) (hD : H1 D = none) (e : Ev K m1 m H1 H) : Ev K m1 m H1 (upd H D u) :=
  ⟨e.pre, fun a ys s => tupH_upd c (e.tk a ys s), fun a ys s => sqR_upd c (e.sk a ys s), fun a ys s => ftT_upd c (e.ft a ys s), fun p o hu hn => by
    rw [upd_ne (ne_of_none hu hD)]; exact e.fr p o hu hn, e.new⟩
theorem out_put {D : Addr} {o o' : VO} {u v : VV} {y z : V} (nd : D ∉ m) (ro : RelO K m H D o) (ru : RelT K m H u y) (rv : RelT K m H v z) (e : dPutO o u v = some o') (hl : sizeO o < sizeLine) :
    ∃ w, DPut H D y z (upd H D w) ∧ RelO K m (upd H D w) D o' ∧ Chg H D := by
  have c : Chg H D := ro.chg
  unfold dPutO at e
  split at e
  · obtain ⟨k, hk, rfl⟩ := Option.map_eq_some_iff.mp e
    obtain ⟨kvs, z1, rfl, z3⟩ := ro
    have ey := keyOf_ok ru hk
    subst ey
    exact ⟨.dK (putK kvs k z), .k z1 (by simpa [sizeO] using hl), ⟨_, upd_same, put_fst, put_snd (out_t c rv) (out_s c z3)⟩, c⟩
  · obtain ⟨k, hk, rfl⟩ := Option.map_eq_some_iff.mp e
    obtain ⟨kvs, z1, rfl, z3⟩ := ro
    obtain ⟨b, rfl, hb⟩ := keyT_ok ru hk
    exact ⟨.dT (putK kvs k z), .t z1 hb (by simpa [sizeO] using hl), ⟨_, upd_same, put_fst, put_snd (out_t c rv) (out_s c z3)⟩, c⟩
  · cases e
end
section
variable {K : PySem.W.Frag} {J : It} {n : Nat} {G : Hp → Prop} {Y : Nat → Hp → V → Hp → Prop}
theorem dc_it {o0 : HO} (w : Walk J n G Y) {g : TG} {tt : TT} {tk tv : TE} {vs : List Nat} {σ : L2.St} {H1 : Hp} {D : Addr} {Qd : Hp → Prop} (Pv : Nat → Hp → Prop) (h0 : Pv 0 (upd H1 D o0)) (hG : ∀ i H, i ≤ n → Pv i H → G H)
    (hs : ∀ i x H H', i < n → Pv i H → Y i H x H' → g x (L2.wipe σ vs) H' fun σ2 H2 => L2.wipe σ2 vs = L2.wipe σ vs ∧ tt σ2 H2 fun b H3 =>
      if b = true then tk σ2 H3 fun y H4 => tv σ2 H4 fun z H5 => ∃ H6, DPut H5 D y z H6 ∧ Pv (i + 1) H6 else Pv (i + 1) H3) (hd : ∀ H, Pv n H → Qd H) :
    ∃ W : Nat → Nat → Hp → Prop, (∃ m, W 0 m (upd H1 D o0)) ∧ ∀ i m H, W i m H →
      (J.stop i H ∧ Qd H) ∨ (J.go i H ∧ ∃ Nx : Hp → Prop, (∀ H', Nx H' → ∃ m', m' < m ∧ W (i + 1) m' H') ∧ ∀ x H', J.yld i H x H' → g x (L2.wipe σ vs) H' fun σ2 H2 => L2.wipe σ2 vs = L2.wipe σ vs ∧ tt σ2 H2 fun b H3 =>
        if b = true then tk σ2 H3 fun y H4 => tv σ2 H4 fun z H5 => ∃ H6, DPut H5 D y z H6 ∧ Nx H6 else Nx H3) := by
  refine ⟨fun i m H => m = n - i ∧ i ≤ n ∧ Pv i H, ⟨n, by simp, Nat.zero_le _, h0⟩, fun i m H hyp => ?_⟩
  obtain ⟨rfl, hi, p⟩ := hyp
  have q := hG i H hi p
  by_cases lt : i < n
  · exact .inr ⟨w.goes i H lt q, Pv (i + 1), fun H' p' => ⟨n - (i + 1), by omega, rfl, lt, p'⟩, fun x H' y => hs i x H H' lt p (w.yields i H x H' lt q y)⟩
  · have e : i = n := by omega
    subst e
    exact .inl ⟨w.stops H q, hd H p⟩
end
section
variable {K : PySem.W.Frag} {X : Cx} {gt : GT} {gk gv : GE} {pos : Pos}
theorem rz_dc {o0 : HO} (em : Emp o0) {wi : TI} {gi : GI} {tg : TG} {g : GG} {js vs : List Nat} {tt : TT} {tk tv : TE} (hi : RzI K wi gi) (hg : RzG K tg g js) (ht : RzT K tt gt) (hk : RzE K tk gk) (hv : RzE K tv gv) (hj : ∀ j ∈ js, j ∈ vs) : RzE K (tDcg o0 wi tg tt tk tv vs) (gDc o0 gi g gt gk gv vs) := fun m h H ρ σ QV Q rh re hq k => by
  refine hi m h H ρ σ _ _ rh re hq fun m1 H1 h1 J xs st e1 r1 w q => ?_
  obtain ⟨G, Y, wk, hG, hY⟩ := w.ex
  intro D hD
  have first : RelO K m1 (upd H1 D o0) D (empO o0) := by
    rcases em with rfl | rfl
    · exact ⟨[], upd_same, rfl, .nil⟩
    · exact ⟨[], upd_same, rfl, .nil⟩
  refine dc_it wk (fun i H' => ∃ m' h' o, Ev K m1 m' H1 H' ∧ RH K m' h' H' ∧ RelO K m' H' D o ∧ D ∉ m' ∧ dcL h1.length st g gt gk gv (wipeV ρ vs) QV (xs.drop i) o h')
    ⟨m1, h1, _, Ev.laid hD, r1.laid hD, first, r1.fresh hD, q⟩ ?_ ?_ ?_
  · rintro i H' _ ⟨m', h', o, e', r', _, _, q'⟩
    exact hG m' h' H' e' r' (dcL_st q')
  · rintro i x H' H2 lt ⟨m', h', o, e', r', ro, nd, q'⟩ y
    obtain ⟨y1, y2, y3⟩ := hY i H' x H2 m' h' y e' r' (dcL_st q') _ (List.getElem?_eq_getElem lt)
    rw [List.drop_eq_getElem_cons lt] at q'
    have rw1 : RE K m1 H1 (wipeV ρ vs) (L2.wipe σ vs) := (re.mono e1).wipe vs
    have stay : ∀ {ma mb : List Addr} {Ha Hb : Hp} {o : VO}, Ev K ma mb Ha Hb → RelO K ma Ha D o → D ∉ ma → RelO K mb Hb D o ∧ D ∉ mb := fun {ma mb Ha Hb o} e ro nd => by
      obtain ⟨u, hu, _⟩ := ro.there
      refine ⟨ro.stay e fun u hu => e.fr D u hu nd, fun z => ?_⟩
      rcases e.new D z with z | z
      · exact nd z
      · rw [z] at hu; cases hu
    obtain ⟨ro2, nd2⟩ := stay y1 ro nd
    refine hg m' h' H2 _ _ xs[i] x _ _ y2 (rw1.mono (e'.trans y1)) y3 q'.2 fun ρ2 σ2 re2 o2 qq => ⟨wipe_only o2 hj, ?_⟩
    obtain ⟨M, q2, hMs, hMn⟩ := qq
    refine ht m' h' H2 ρ2 σ2 _ _ y2 re2 q2 fun m3 H3 h3 b e3 r3 q3 => ?_
    obtain ⟨ro3, nd3⟩ := stay e3 ro2 nd2
    cases b with
    | false => exact ⟨m3, h3, o, (e'.trans y1).trans e3, r3, ro3, nd3, hMn _ q3⟩
    | true =>
      refine hk m3 h3 H3 ρ2 σ2 _ _ r3 (re2.mono e3) q3 fun m4 H4 h4 r z p q4 => put_ok p q4 fun m5 h5 u e5 r5 t5 pre q5 => ?_
      obtain ⟨ro5, nd5⟩ := stay e5 ro3 nd3
      refine hv m5 h5 H4 ρ2 σ2 _ _ r5 ((re2.mono e3).mono e5) q5 fun m6 H6 h6 r2 z2 p2 q6 => put_ok p2 q6 fun m7 h7 v e7 r7 t7 pre2 q7 => ?_
      obtain ⟨ro7, nd7⟩ := stay e7 ro5 nd5
      obtain ⟨o', d1, d2, d3⟩ := hMs _ _ _ q7
      obtain ⟨w2, dp, ro8, c⟩ := out_put nd7 ro7 (t5.mono e7) t7 d1 d2
      exact ⟨_, dp, m7, h7, o', out_e c hD (((e'.trans y1).trans e3).trans (e5.trans e7)), out_h c ro7.noxd nd7 r7, ro8, nd7, d3⟩
  · rintro H' ⟨m', h', o, e', r', ro, nd, q'⟩
    rw [List.drop_length] at q'
    exact k m' H' h' (.new o) (.ref D) ⟨e1.trans e', r', ⟨D, rfl, nd, ro⟩, fun o a _ z => by cases z; exact e1.back r1 hD⟩ q'.2
theorem mdc {o0 : HO} {kx vx tg iter : Expr} {ifs : List Expr} {scope : Scope} {own : List (Str × Nat)} {gi : GI} {g : GG} {js : List Nat} (hu : X.A.units + 1 < cLine) (em : Emp o0) (hN : X.N.Nodup) (hi : MI X tg iter gi) (ok : BlkOk X.N X.env.scope scope own)
    (hg : ∀ s H C cl fp, MG (bx X scope s H C cl fp) tg g js) (ht : ∀ s H C cl fp, MTs (bx X scope s H C cl fp) ifs gt) (hk : ∀ s H C cl fp, MX (bx X scope s H C cl fp) kx gk) (hv : ∀ s H C cl fp, MX (bx X scope s H C cl fp) vx gv)
    (hj : ∀ j ∈ js, j ∈ own.map (·.2) := by decide) (hc : X.calm = true := by rfl) (hs : ∀ x, foldedSetIterable iter X.env x = pure x := by intro _; rfl) :
    MX X (.DictComp kx vx [⟨tg, iter, ifs, 0⟩] scope pos) (gDc o0 gi g gt gk gv (own.map (·.2))) := by
  obtain ⟨wi, i1, i2⟩ := hi.ex
  obtain ⟨tg', g1, g2⟩ := unifG hg
  obtain ⟨tt, t1, t2⟩ := unifT ht
  obtain ⟨tk, k1, k2⟩ := unifE hk
  obtain ⟨tv, v1, v2⟩ := unifE hv
  exact ⟨_, pe_dcg hu em hc hN i1 ok g1 t1 k1 v1 hs, rz_dc em i2 g2 t2 k2 v2 hj⟩
theorem swd_true {kx vx : Expr} {gs : List Comprehension} {scope : Scope} {pos py : Pos} {y : Str} {l : Nat} {env : PySem.Env} (hk : env.scope.kind = .function) (hy : env.scope.names.lookup y = some .local) (hl : (py.line == pos.line) = true)
    (ha : (scope.names.any fun (n, k) => n == y && (k == .local || k == .cell)) = false) : swapsWith (.DictComp kx vx gs scope pos) (some (.Name y py)) l env = pure true := sw_true (elt := kx) (gs := gs) (l := l) hk hy hl ha
theorem mssetdc {o0 : HO} (i : Nat) {y : Str} {py spos : Pos} {kx vx tg iter : Expr} {ifs : List Expr} {scope : Scope} {own : List (Str × Nat)} {gi : GI} {g : GG} {js : List Nat} (hu : X.A.units + 1 < cLine) (em : Emp o0) (hN : X.N.Nodup) (hi : MI X tg iter gi) (ok : BlkOk X.N X.env.scope scope own)
    (hg : ∀ s H C cl fp, MG (bx X scope s H C cl fp) tg g js) (ht : ∀ s H C cl fp, MTs (bx X scope s H C cl fp) ifs gt) (hk : ∀ s H C cl fp, MX (bx X scope s H C cl fp) kx gk) (hv : ∀ s H C cl fp, MX (bx X scope s H C cl fp) vx gv)
    (hj : ∀ j ∈ js, j ∈ own.map (·.2) := by decide) (hy : X.N[i]? = some y := by rfl) (hyl : X.env.scope.names.lookup y = some .local := by rfl)
    (hsw : swapsWith (.DictComp kx vx [⟨tg, iter, ifs, 0⟩] scope pos) (some (.Name y py)) spos.line X.env = pure true := by exact swd_true rfl rfl rfl (by decide +kernel))
    (hc : X.calm = true := by rfl) (hs : ∀ x, foldedSetIterable iter X.env x = pure x := by intro _; rfl) :
    MS X (.Assign [.Name y py] (.DictComp kx vx [⟨tg, iter, ifs, 0⟩] scope pos) spos) (gSet i (gDc o0 gi g gt gk gv (own.map (·.2)))) := by
  obtain ⟨wi, i1, i2⟩ := hi.ex
  obtain ⟨tg', g1, g2⟩ := unifG hg
  obtain ⟨tt, t1, t2⟩ := unifT ht
  obtain ⟨tk, k1, k2⟩ := unifE hk
  obtain ⟨tv, v1, v2⟩ := unifE hv
  exact ⟨_, ps_dcg hu em hc hN hy hyl hsw i1 ok g1 t1 k1 v1 hs, rz_set (rz_dc em i2 g2 t2 k2 v2 hj)⟩
theorem empT : Emp (.dT []) := .inr rfl
theorem empK : Emp (.dK []) := .inl rfl
end
section
variable {ρ : VL.Env} {h : VH} {Q : R → VH → Prop} {gt : GT} {gk gv : GE}
theorem t_dc {o0 : HO} {gi : GI} {g : GG} {vs : List Nat} (q : gi ρ h fun xs st h1 => dcL h1.length st g gt gk gv (wipeV ρ vs) Q xs (empO o0) h1) : gDc o0 gi g gt gk gv vs ρ h Q := q
/-- by an invariant -/
theorem dc_go {st : VH → Prop} {g : GG} {ρw : VL.Env} {n0 : Nat} (Inv : Nat → VO → VH → Prop) : ∀ (xs : List VV) (k : Nat) (o : VO) (h : VH), (∀ i o h, Inv i o h → st h) → Inv k o h →
    (∀ i x o h, xs[i]? = some x → Inv (k + i) o h → g x ρw fun ρ1 => gt ρ1 h fun b h1 => if b = true then gk ρ1 h1 fun r h2 => put r h2 fun u h3 => gv ρ1 h3 fun s h4 => put s h4 fun v h5 => ∃ o', dPutO o u v = some o' ∧ sizeO o ≤ 100000 ∧ Inv (k + i + 1) o' h5 else Inv (k + i + 1) o h1) →
    (∀ o h, Inv (k + xs.length) o h → Q (.new o) h) → (mono : ∀ x ρ (A B : VL.Env → Prop), (∀ ρ, A ρ → B ρ) → g x ρ A → g x ρ B) → dcL n0 st g gt gk gv ρw Q xs o h
  | [], k, o, h, hst, hi, _, q, _ => ⟨hst _ _ _ hi, q _ _ hi⟩
  | x :: xs, k, o, h, hst, hi, hs, q, mono => by
    have next : ∀ o h, Inv (k + 1) o h → dcL n0 st g gt gk gv ρw Q xs o h := fun o h hi =>
      dc_go Inv xs (k + 1) o h hst hi (fun i x o h e q => by
        have := hs (i + 1) x o h (by simpa using e) (by rw [show k + (i + 1) = k + 1 + i by omega]; exact q)
        rw [show k + (i + 1) = k + 1 + i by omega] at this
        exact this) (fun o h q2 => q o h (by rw [List.length_cons, show k + (xs.length + 1) = k + 1 + xs.length by omega]; exact q2)) mono
    have s0 := hs 0 x o h rfl hi
    refine ⟨hst _ _ _ hi, mono _ _ _ _ (fun ρ1 z => ⟨fun w h1 => match w with
      | some (u, v) => ∃ o', dPutO o u v = some o' ∧ sizeO o ≤ 100000 ∧ Inv (k + 0 + 1) o' h1
      | none => Inv (k + 0 + 1) o h1, z, fun u v h5 hw => ?_, fun h1 hw => next _ _ hw⟩) s0⟩
    obtain ⟨o', e1, e2, e3⟩ := hw
    exact ⟨o', e1, Nat.lt_of_le_of_lt e2 (by decide), next _ _ e3⟩
end
end VL

set_option autoImplicit false
/-! VL60: dict(list of pairs); two dicts of ints compared. -/
namespace VL
open PySem L2
def keyV : Key → VV
  | .inl i => .int i
  | .inr s => .str s
theorem keyV_rel {K : PySem.W.Frag} {m : List Addr} {H : Hp} {k : Key} {y : V} (r : RelT K m H (keyV k) y) : y = kV k := by
  cases k with
  | inl i => exact r.int_inv
  | inr s => exact r.str_inv
/-- keys and values behind these puts -/
def mrg : List (Key × VV) → List Key → List VV → List Key × List VV
  | [], ks, vs => (ks, vs)
  | p :: ps, ks, vs => mrg ps (pKs ks p.1) (pVs ks vs p.1 p.2)
section
variable {K : PySem.W.Frag} {m : List Addr} {H : Hp} {h : VH}
theorem mrg_ok : ∀ {ps : List (Key × VV)} {kvs acc : List (Key × V)} {vs : List VV}, kvs.map Prod.fst = ps.map Prod.fst → Rels K m H (ps.map Prod.snd) (kvs.map Prod.snd) → Rels K m H vs (acc.map Prod.snd) →
    (mergeK acc kvs).map Prod.fst = (mrg ps (acc.map Prod.fst) vs).1 ∧ Rels K m H (mrg ps (acc.map Prod.fst) vs).2 ((mergeK acc kvs).map Prod.snd)
  | [], [], acc, vs, _, _, r => ⟨rfl, r⟩
  | [], _ :: _, _, _, e, _, _ => by cases e
  | _ :: _, [], _, _, e, _, _ => by cases e
  | p :: ps, kv :: kvs, acc, vs, e, r, ra => by
    rw [List.map_cons, List.map_cons] at e
    rw [List.map_cons, List.map_cons] at r
    obtain ⟨r1, r2⟩ := rels_cons r
    obtain ⟨e1, e2⟩ := List.cons.inj e
    have step : mergeK acc (kv :: kvs) = mergeK (putK acc kv.1 kv.2) kvs := rfl
    rw [step, mrg, ← e1, ← put_fst (y := kv.2)]
    exact mrg_ok e2 r2 (put_snd r1 ra)
def guDictP : GU := fun x h Q => ∃ ps : List (Key × VV), lstOf h x = some (ps.map fun p => .tup [keyV p.1, p.2]) ∧ Q (.new (.dic (mrg ps [] []).1 (mrg ps [] []).2)) h
theorem pairs_ok : ∀ {ps : List (Key × VV)} {ys : List V}, Rels K m H (ps.map fun p => VV.tup [keyV p.1, p.2]) ys → ∃ (as : List Addr) (kvs : List (Key × V)), ys = as.map V.ref ∧ Paired (fun p kv => SqT K H p [kV kv.1, kv.2]) as kvs ∧ kvs.map Prod.fst = ps.map Prod.fst ∧ Rels K m H (ps.map Prod.snd) (kvs.map Prod.snd)
  | [], [], _ => ⟨[], [], rfl, .nil, rfl, .nil⟩
  | [], _ :: _, r => by have := r.len; simp at this
  | _ :: _, [], r => by have := r.len; simp at this
  | p :: ps, y :: ys, r => by
    obtain ⟨r1, r2⟩ := rels_cons r
    obtain ⟨as, kvs, rfl, h2, h3, h4⟩ := pairs_ok r2
    obtain ⟨a, zs, rfl, sq, rz⟩ := RelT.tup_inv r1
    obtain ⟨u, v, rfl, ru, rv⟩ := rels2 rz
    have := keyV_rel ru
    subst this
    exact ⟨a :: as, (p.1, v) :: kvs, rfl, .cons sq h2, by rw [List.map_cons, List.map_cons, h3], .cons rv h4⟩
end
section
variable {X : Cx}
theorem mc_dictP (hc : X.calm = true := by rfl) : MC1 X (.type "dict") guDictP := by
  refine ⟨_, call_dictP hc, fun m h H x rx QV Q rh r1 q k => ?_⟩
  obtain ⟨ps, e, q⟩ := q
  obtain ⟨p, ys, rfl, hp, r⟩ := lstOf_ok rh r1 e
  obtain ⟨as, kvs, rfl, h2, h3, h4⟩ := pairs_ok r
  refine ⟨p, as, kvs, rfl, .of hp, h2, fun l hl => ?_⟩
  obtain ⟨m1, m2⟩ := mrg_ok (acc := []) h3 h4 .nil
  exact k m _ h (.new (.dic (mrg ps [] []).1 (mrg ps [] []).2)) (.ref l) ⟨Ev.laid hl, rh.laid hl, ⟨l, rfl, rh.fresh hl, _, upd_same, m1, m2.mono (Ev.laid hl)⟩, fun _ a _ z => by cases z; exact hl⟩ q
def dicOf (h : VH) : R → Option (List Key × List VV)
  | .val (.ref n) => match h[n]? with
    | some (.dic ks vs) => some (ks, vs)
    | _ => none
  | .new (.dic ks vs) => some (ks, vs)
  | _ => none
theorem dicOf_ok {K : PySem.W.Frag} {m : List Addr} {H : Hp} {h : VH} {r : R} {x : V} {ks : List Key} {vs : List VV} (rh : RH K m h H) (rr : RelR K m H r x) (e : dicOf h r = some (ks, vs)) : ∃ p kvs, x = .ref p ∧ H p = some (.dK kvs) ∧ kvs.map Prod.fst = ks ∧ Rels K m H vs (kvs.map Prod.snd) := by
  unfold dicOf at e
  split at e
  · split at e
    · rename_i n _ ks' vs' hn
      cases e
      obtain ⟨a, rfl, ha⟩ := RelT.ref_inv rr
      obtain ⟨kvs, z1, z2, z3⟩ := rh.obj n _ a hn ha
      exact ⟨a, kvs, rfl, z1, z2, z3⟩
    · cases e
  · cases e
    obtain ⟨a, rfl, _, kvs, z1, z2, z3⟩ := rr
    exact ⟨a, kvs, rfl, z1, z2, z3⟩
  · cases e
/-- two dicts whose values are ints, equal whatever their order -/
def goEqDI : GO := fun x y h Q => ∃ (ks js : List Key) (vs us : List VV), dicOf h x = some (ks, vs) ∧ dicOf h y = some (js, us) ∧ ks.Nodup ∧ ks.length = js.length ∧ vs.length = ks.length ∧
  (∀ k ∈ ks, ∃ z : Int, vG ks vs k = some (.int z) ∧ vG js us k = some (.int z)) ∧ Q (.val (.bl true)) h
theorem valV_nd {κ : Type} [DecidableEq κ] {kv : κ × V} : ∀ {kvs : List (κ × V)}, (kvs.map Prod.fst).Nodup → kv ∈ kvs → valV kvs kv.1 = some kv.2
  | [], _, h => by cases h
  | p :: kvs, nd, h => by
    rw [List.map_cons] at nd
    obtain ⟨n1, n2⟩ := List.nodup_cons.mp nd
    have e : valV (p :: kvs) kv.1 = if p.1 = kv.1 then some p.2 else valV kvs kv.1 := by
      unfold valV
      by_cases c : p.1 = kv.1
      · rw [List.find?_cons_of_pos (by simpa using c), if_pos c]; rfl
      · rw [List.find?_cons_of_neg (by simpa using c), if_neg c]
    rw [e]
    rcases List.mem_cons.mp h with h | h
    · subst h; rw [if_pos rfl]
    · rw [if_neg (fun z : p.1 = kv.1 => n1 (by rw [z]; exact List.mem_map_of_mem h))]; exact valV_nd n2 h
theorem mo_eqDI (hu : X.A.units < cLine) : MO X (compareOp .Eq) goEqDI := by
  refine ⟨_, op_eq_dictA hu, fun m h H x y rx ry QV Q rh r1 r2 q k => ?_⟩
  obtain ⟨ks, js, vs, us, e1, e2, nd, hl, hl2, hv, q⟩ := q
  obtain ⟨p, kvs, rfl, hp, rfl, rv⟩ := dicOf_ok rh r1 e1
  obtain ⟨p2, kvs2, rfl, hp2, rfl, rv2⟩ := dicOf_ok rh r2 e2
  rw [List.length_map, List.length_map] at hl
  refine ⟨p, p2, kvs, kvs2, rfl, rfl, hp, hp2, hl, fun kv hkv => ?_, k m H h _ _ (.val rh .bl) q⟩
  obtain ⟨z, z1, z2⟩ := hv kv.1 (List.mem_map_of_mem hkv)
  obtain ⟨y1, a1, b1⟩ := (vG_ok (k := kv.1) rv).1 _ z1
  obtain ⟨y2, a2, b2⟩ := (vG_ok (k := kv.1) rv2).1 _ z2
  have := b1.int_inv
  subst this
  have := b2.int_inv
  subst this
  rw [valV_nd nd hkv] at a1
  have e := Option.some.inj a1
  rw [a2, e]
  exact ⟨rfl, rfl⟩
end
section
variable {h : VH} {Q : R → VH → Prop} {x y : R}
theorem t_dictP {ps : List (Key × VV)} (e : lstOf h x = some (ps.map fun p => .tup [keyV p.1, p.2])) (q : Q (.new (.dic (mrg ps [] []).1 (mrg ps [] []).2)) h) : guDictP x h Q := ⟨ps, e, q⟩
/-- pairs of unlike keys: as they are -/
theorem mrg_nd : ∀ {ps : List (Key × VV)} {ks : List Key} {vs : List VV}, (ks ++ ps.map Prod.fst).Nodup → mrg ps ks vs = (ks ++ ps.map Prod.fst, vs ++ ps.map Prod.snd)
  | [], ks, vs, _ => by simp [mrg]
  | p :: ps, ks, vs, nd => by
    have hn : p.1 ∉ ks := fun hm => by
      have := (List.nodup_append.mp nd).2.2 p.1 hm p.1 (by simp)
      exact this rfl
    rw [mrg]
    unfold pKs pVs
    rw [if_neg hn, if_neg hn, mrg_nd (by simpa using nd)]
    simp
end
end VL

set_option autoImplicit false
/-! VL61: steps for d["word"], pop(i), clear, reverse; flat cells; frames of a heap. -/
namespace VL
open PySem L2
section
variable {ρ : VL.Env} {h : VH} {Q : R → VH → Prop} {ga gb gv gi : GE} {N : VL.Env → VH → Prop} {rt : R → VH → Prop} {bk ct : VL.Env → VH → Prop} {ex : XV}
def kDGS (Q : R → VH → Prop) (r s : R) (h3 : VH) : Prop := match r, s with
  | .val (.ref n), .val y => match h3[n]?, keyOf y with
    | some (.dic ks vs), some k => match valW ks vs k with
      | some v => Q (.val v) h3
      | none => False
    | _, _ => False
  | _, _ => False
theorem t_dgs (q : ga ρ h fun r h1 => gb ρ h1 fun s h3 => kDGS Q r s h3) : gDGet ga gb ρ h Q := q
theorem t_kdgs {n : Nat} {y v : VV} {ks : List Key} {vs : List VV} {k : Key} (e1 : h[n]? = some (.dic ks vs)) (e2 : keyOf y = some k) (e3 : valW ks vs k = some v) (q : Q (.val v) h) : kDGS Q (.val (.ref n)) (.val y) h := by
  unfold kDGS
  simp only [e1, e2, e3]
  exact q
def kDPS (v : VV) (N : VL.Env → VH → Prop) (ρ : VL.Env) (s t : R) (h4 : VH) : Prop := match s, t with
  | .val (.ref n), .val y => match h4[n]?, keyOf y with
    | some (.dic ks vs), some k => vs.length < sizeLine ∧ N ρ (h4.set n (putD ks vs k v))
    | _, _ => False
  | _, _ => False
theorem t_dps (q : gv ρ h fun r h1 => put r h1 fun v h2 => ga ρ h2 fun s h3 => gi ρ h3 fun t h4 => kDPS v N ρ s t h4) : gDPut gv ga gi ⟨N, rt, bk, ct, ex⟩ ρ h := q
theorem t_seqDPS {g2 : GS} (q : gDPut gv ga gi ⟨fun ρ' h' => g2 ⟨N, rt, bk, ct, ex⟩ ρ' h', rt, bk, ct, ex⟩ ρ h) : gSeq (gDPut gv ga gi) g2 ⟨N, rt, bk, ct, ex⟩ ρ h := ⟨_, q, fun _ _ z => z⟩
theorem t_kdps {n : Nat} {y v : VV} {ks : List Key} {vs : List VV} {k : Key} (e1 : h[n]? = some (.dic ks vs)) (e2 : keyOf y = some k) (e3 : vs.length ≤ 1000) (q : N ρ (h.set n (putD ks vs k v))) : kDPS v N ρ (.val (.ref n)) (.val y) h := by
  unfold kDPS
  simp only [e1, e2]
  exact ⟨Nat.lt_of_le_of_lt e3 (by decide), q⟩
def kPopAt (gb : GE) (ρ : VL.Env) (Q : R → VH → Prop) (r : R) (h1 : VH) : Prop := match r with
  | .val (.ref n) => (∃ xs, h1[n]? = some (.lst xs)) ∧ gb ρ h1 fun s h3 => match s with
    | .val (.int i) => match h3[n]? with
      | some (.lst xs) => match seqIndex? i xs.length with
        | some j => match xs[j]? with
          | some v => (-(2 ^ 63) ≤ i ∧ i < 2 ^ 63) ∧ Q (.val v) (h3.set n (.lst (xs.eraseIdx j)))
          | none => False
        | none => False
      | _ => False
    | _ => False
  | _ => False
theorem t_popAt (q : ga ρ h fun r h1 => kPopAt gb ρ Q r h1) : gPopAt ga gb ρ h Q := q
/-- pop(0) -/
theorem t_kpop0 {n : Nat} {v : VV} {xs : List VV} (e : h[n]? = some (.lst (v :: xs))) (q : Q (.val v) (h.set n (.lst xs))) : kPopAt (gC (.int 0)) ρ Q (.val (.ref n)) h := by
  refine ⟨⟨_, e⟩, ?_⟩
  show (match h[n]? with
      | some (.lst xs) => match seqIndex? 0 xs.length with
        | some j => match xs[j]? with
          | some v => (-(2 ^ 63) ≤ (0 : Int) ∧ (0 : Int) < 2 ^ 63) ∧ Q (.val v) (h.set n (.lst (xs.eraseIdx j)))
          | none => False
        | none => False
      | _ => False)
  have e0 : seqIndex? 0 (v :: xs).length = some 0 := by unfold seqIndex?; simp
  simp only [e, e0]
  exact ⟨⟨by decide, by decide⟩, q⟩
theorem t_lm0 {f : List VV → Option (VV × List VV)} {a k : Nat} {xs ys : List VV} {v : VV} (e : ρ[a]? = some (some (.ref k))) (e1 : h[k]? = some (.lst xs)) (e2 : f xs = some (v, ys)) (q : Q (.val v) (h.set k (.lst ys))) : gLm0 f (gV a) ρ h Q := by
  unfold gLm0
  refine t_V e ?_
  show (match h[k]? with
    | some (.lst xs) => match f xs with
      | some (v, ys) => Q (.val v) (h.set k (.lst ys))
      | none => False
    | _ => False)
  simp only [e1, e2]
  exact q
end
/-! ### cells by one number -/
theorem flat_cells {α : Type} {n : Nat} (hn : 0 < n) (F : Nat → Nat → α) : ∀ m : Nat, (List.range m).flatMap (fun i => (List.range n).map (F i)) = (List.range (m * n)).map fun c => F (c / n) (c % n)
  | 0 => by simp
  | m + 1 => by
    rw [List.range_succ, List.flatMap_append, flat_cells hn F m, Nat.succ_mul, List.range_add, List.map_append]
    congr 1
    rw [List.flatMap_singleton, List.map_map]
    refine List.map_congr_left fun j hj => ?_
    have hj := List.mem_range.mp hj
    show F m j = F ((m * n + j) / n) ((m * n + j) % n)
    rw [Nat.add_comm, Nat.add_mul_div_right _ _ hn, Nat.div_eq_of_lt hj, Nat.zero_add, Nat.add_mul_mod_self_right, Nat.mod_eq_of_lt hj]
theorem flat_div {n i j : Nat} (hj : j < n) : (i * n + j) / n = i := by
  have hn : 0 < n := by omega
  rw [Nat.add_comm, Nat.add_mul_div_right _ _ hn, Nat.div_eq_of_lt hj, Nat.zero_add]
theorem flat_mod {n i j : Nat} (hj : j < n) : (i * n + j) % n = j := by
  rw [Nat.add_comm, Nat.add_mul_mod_self_right, Nat.mod_eq_of_lt hj]
theorem flat_lt {n i j : Nat} (hi : i < n) (hj : j < n) : i * n + j < n * n := by
  have : (i + 1) * n ≤ n * n := Nat.mul_le_mul_right _ hi
  rw [Nat.succ_mul] at this
  omega
theorem flat_of {n c : Nat} (hc : c < n * n) : c / n < n ∧ c % n < n ∧ c / n * n + c % n = c := by
  have hn : 0 < n := by
    rcases Nat.eq_zero_or_pos n with rfl | h
    · simp at hc
    · exact h
  exact ⟨Nat.div_lt_of_lt_mul hc, Nat.mod_lt _ hn, Nat.div_add_mod' c n⟩
theorem flat_inj {n i j i' j' : Nat} (hj : j < n) (hj' : j' < n) (e : i * n + j = i' * n + j') : i = i' ∧ j = j' := by
  have h1 := flat_div (i := i) hj
  have h2 := flat_div (i := i') hj'
  have h3 := flat_mod (i := i) hj
  have h4 := flat_mod (i := i') hj'
  rw [e] at h1 h3
  exact ⟨h1.symm.trans h2, h3.symm.trans h4⟩
/-! ### what stays -/
/-- all but lo .. hi stays; more may stand behind -/
def Fr (h h' : VH) (lo hi : Nat) : Prop := h.length ≤ h'.length ∧ ∀ a, a < h.length → (a < lo ∨ hi ≤ a) → h'[a]? = h[a]?
theorem Fr.refl {h : VH} {lo hi : Nat} : Fr h h lo hi := ⟨Nat.le_refl _, fun _ _ _ => rfl⟩
theorem Fr.tr {h h1 h2 : VH} {lo hi : Nat} (a : Fr h h1 lo hi) (b : Fr h1 h2 lo hi) : Fr h h2 lo hi := ⟨Nat.le_trans a.1 b.1, fun i hi c => (b.2 i (Nat.lt_of_lt_of_le hi a.1) c).trans (a.2 i hi c)⟩
theorem Fr.wide {h h' : VH} {lo hi lo' hi' : Nat} (a : Fr h h' lo hi) (h1 : lo' ≤ lo) (h2 : hi ≤ hi') : Fr h h' lo' hi' := ⟨a.1, fun i hi c => a.2 i hi (by omega)⟩
theorem Fr.app {h j : VH} {lo hi : Nat} : Fr h (h ++ j) lo hi := ⟨by simp, fun i hi _ => by rw [List.getElem?_append_left hi]⟩
theorem Fr.set {h : VH} {k lo hi : Nat} {o : VO} (h1 : lo ≤ k) (h2 : k < hi) : Fr h (h.set k o) lo hi := ⟨by simp, fun i _ c => by rw [List.getElem?_set_ne (by omega)]⟩
theorem Fr.get {h h' : VH} {lo hi a : Nat} {o : VO} (f : Fr h h' lo hi) (e : h[a]? = some o) (c : a < lo ∨ hi ≤ a) : h'[a]? = some o := (f.2 a (List.getElem?_eq_some_iff.mp e).1 c).trans e
/-- the drawing part stands at 0 and 1 -/
theorem Fr.th {ns : List Int} {s : Ur} {r h' : VH} {lo hi : Nat} (f : Fr (TH ns s r) h' lo hi) (c : 2 ≤ lo) : ∃ r', h' = TH ns s r' := by
  have l := f.1
  rw [th_len] at l
  match h', l with
  | a :: b :: r', l =>
    have e0 := f.2 0 (by rw [th_len]; omega) (.inl (by omega))
    have e1 := f.2 1 (by rw [th_len]; omega) (.inl (by omega))
    cases Option.some.inj e0
    cases Option.some.inj e1
    exact ⟨r', rfl⟩
theorem th_fr {ns : List Int} {s s' : Ur} {r : VH} : Fr (TH ns s r) (TH ns s' r) 0 2 := ⟨Nat.le_refl _, fun a ha c => by
  obtain ⟨k, rfl⟩ : ∃ k, a = k + 2 := ⟨a - 2, by omega⟩
  rfl⟩
end VL

set_option autoImplicit false
/-! VL62: zip of a list and a tuple that the program made; count of such a tuple. -/
namespace VL
open PySem L2 PyProof.Rows
def ItzM (K : PySem.W.Frag) (a b : Addr) : It :=
  ⟨fun i H => ∃ (l t : List V) (x y : V), SqL K H a l ∧ SqT K H b t ∧ l[i]? = some x ∧ t[i]? = some y,
   fun i H v H' => ∃ (T : Addr) (x y : V), v = .ref T ∧ H T = none ∧ H' = upd H T (.tup [x, y]) ∧ (∀ l : List V, SqL K H a l → l[i]? = some x) ∧ (∀ t : List V, SqT K H b t → t[i]? = some y),
   fun i H => ∃ l t : List V, SqL K H a l ∧ SqT K H b t ∧ min l.length t.length = i⟩
def tnM (z TI TO i1 i2 a b : Addr) (i : Nat) (h : Heap) : Prop := IsZip h z TI TO .none ∧ IsTupOf2 h TI (.ref i1) (.ref i2) ∧ (∃ x y, IsTupOf2 h TO x y) ∧ h.IsListIter i1 a i ∧ h.IsTupleIter i2 b i
theorem tnM_obj {z TI TO i1 i2 a b : Addr} {i : Nat} {h : Heap} (st : tnM z TI TO i1 i2 a b i h) (c : Addr) (hc : c ∈ [z, TI, TO, i1, i2]) : ∃ o, h.get? c = some o ∧ ∀ v, o.data ≠ .cell v := by
  obtain ⟨hz, hTI, ⟨x, y, hTO⟩, ⟨o1, e1, _, d1⟩, ⟨o2, e2, _, d2⟩⟩ := st
  simp only [List.mem_cons, List.not_mem_nil, or_false] at hc
  rcases hc with rfl | rfl | rfl | rfl | rfl
  · exact ⟨_, hz, fun v => by simp⟩
  · exact ⟨_, hTI, fun v => by simp⟩
  · exact ⟨_, hTO, fun v => by simp⟩
  · exact ⟨o1, e1, fun v => by rw [d1]; simp⟩
  · exact ⟨o2, e2, fun v => by rw [d2]; simp⟩
theorem turn_zipM {P : Program} {w : World} {K : PySem.W.Frag} {es : List Expr} {q : Nat} {ps : Pos} {a b z TI TO i1 i2 : Addr} (S : ZipSep2 z TI TO i1 i2 [i1, a] [i2, b]) (ne1 : a ≠ i1) (ne2 : b ≠ i2) :
    Turn P w K (.Tuple es q ps) (ItzM K a b) [z, TI, TO, i1, i2] z (tnM z TI TO i1 i2 a b) where
  mem := List.mem_cons_self ..
  obj := fun i h st c hc => tnM_obj st c hc
  keep := fun i h h' st k => by
    obtain ⟨hz, hTI, ⟨x, y, hTO⟩, h1, h2⟩ := st
    refine ⟨k z ?_ _ hz, k TI ?_ _ hTI, ⟨x, y, k TO ?_ _ hTO⟩, h1.at fun o e => k i1 ?_ o e, h2.at fun o e => k i2 ?_ o e⟩ <;> simp
  item := by
    intro X hP hw hK hc i pins s σ H E I hf st hg
    subst hP; subst hw; subst hK
    have st0 := st
    obtain ⟨hz, hTI, hTO, h1, h2⟩ := st
    obtain ⟨l, t, x, y, qx, qy, hx, hy⟩ := hg
    obtain ⟨its, rv, p, _⟩ := I.list qx
    obtain ⟨its2, rv2, p2, _⟩ := I.tuple qy
    obtain ⟨u, hu, ru⟩ := rv.get hx
    obtain ⟨u2, hu2, ru2⟩ := rv2.get hy
    have il := (List.getElem?_eq_some_iff.mp hu).1
    have il2 := (List.getElem?_eq_some_iff.mp hu2).1
    have G := GoesN.zip2 (elts := es) (x1 := q) (pos := ps) S (Draws.list (A := X.A.in1) (prog := X.prog) (w := X.w) (I.ok.hd hc) i1 a ne1 its.toArray) (Draws.tuple (A := X.A.in1) (I.ok.hd hc) i2 b ne2 its2.toArray)
    refine G.goes i s _ E (by simp only [List.size_toArray]; omega) ⟨hz, hTI, hTO, ⟨h1, p.isList⟩, ⟨h2, p2⟩⟩ fun v h' tk hY hSt hk htk => ?_
    obtain ⟨T, y1, y2, rfl, hT, e1, e2, hI⟩ := hY
    simp only [List.getElem?_toArray] at e1 e2
    rw [hu] at e1; cases e1
    rw [hu2] at e2; cases e2
    obtain ⟨nz, nTI, nTO, ⟨n1, _⟩, ⟨n2, _⟩⟩ := hSt
    have new : ObjOk X.prog X.w (upd H T (.tup [x, y])) h' T (.tup [x, y]) := ⟨by show 2 ≤ sizeLine; decide, [u, u2], .cons ru (.cons ru2 .nil), hI⟩
    have J := I.turnedNew (t' := tk) (ch := [z, TI, TO, i1, i2]) (fun c o hb e => hk c o (fun m => hb (by
      simp only [List.mem_cons, List.not_mem_nil, or_false] at m ⊢
      rcases m with rfl | rfl | rfl | rfl <;> simp)) e) hf hT new
    refine ⟨.ref T, _, J, rfl, ⟨T, x, y, rfl, I.hok.fresh hT, rfl, fun l' hl => by rw [I.list_inj hl qx]; exact hx, fun t' ht => by rw [I.tuple_inj ht qy]; exact hy⟩, ⟨nz, nTI, nTO, n1, n2⟩, fun c hcm => ?_⟩
    obtain ⟨o, ho, _⟩ := tnM_obj st0 c hcm
    rw [upd_ne (Nat.ne_of_lt (Nat.lt_of_lt_of_le (Heap.lt_size ho) hT))]
    exact (hf c hcm).1
  done := by
    intro X hP hw hK hc i pins s σ H E I hf st hg
    subst hP; subst hw; subst hK
    obtain ⟨hz, hTI, hTO, h1, h2⟩ := st
    obtain ⟨l, t, qx, qy, hend⟩ := hg
    obtain ⟨its, rv, p, _⟩ := I.list qx
    obtain ⟨its2, rv2, p2, _⟩ := I.tuple qy
    have G := GoesN.zip2 (elts := es) (x1 := q) (pos := ps) S (Draws.list (A := X.A.in1) (prog := X.prog) (w := X.w) (I.ok.hd hc) i1 a ne1 its.toArray) (Draws.tuple (A := X.A.in1) (I.ok.hd hc) i2 b ne2 its2.toArray)
    have e : min its.toArray.size its2.toArray.size = i := by rw [List.size_toArray, List.size_toArray]; have q1 := rv.length; have q2 := rv2.length; omega
    rw [e] at G
    refine G.stops s _ E ⟨hz, hTI, hTO, ⟨h1, p.isList⟩, ⟨h2, p2⟩⟩ fun h' tk hk htk => ?_
    exact I.turnedL (t' := tk) (ch := [z, TI, TO, i1, i2]) (fun c o hb e => hk c o (fun m => hb (by
      simp only [List.mem_cons, List.not_mem_nil, or_false] at m ⊢
      rcases m with rfl | rfl | rfl | rfl <;> simp)) e) hf
  self := fun A i s Q E st h => wpAny_pyIter_zip st.1 h
def iZipM (K : PySem.W.Frag) (ta : TA) : TI := fun σ H R => ta σ H fun vs H1 => ∃ (a b : Addr) (l t : List V), vs = [.ref a, .ref b] ∧ SqL K H1 a l ∧ SqT K H1 b t ∧ R (ItzM K a b) H1
theorem pi_zipM {X : Cx} {e e2 : Expr} {ta : TA} {p pos tpos : Pos} {elts : List Expr} {kk : Nat} (hg : Gl X "zip") (hm : X.mg "zip" = none) (ha : PA X [e, e2] ta) (hs : starEach [e, e2] X.env = (false, eval e X.env) :: starEach [e2] X.env) (hpl : (backTo pos (starEach [e2] X.env)).any (·.1) = false) :
    PI X (.Tuple elts kk tpos) (.Call (.Name "zip" p) [e, e2] [] pos) (iZipM X.K ta) := by
  refine ⟨fun pins s σ H R I h => Call_ (ld_blt I hg hm PyProof.Rows.boot_zip (PyProof.Rows.callWith_type1 (thn (ha.run pos pins s σ H _ I h) fun us s1 ⟨vs, H1, I1, r1, q1⟩ => ?_) hs hpl))⟩
  obtain ⟨a, b, l, t, rfl, qx, qy, q⟩ := q1
  obtain ⟨u1, u2, rfl, ra, rb⟩ : ∃ u1 u2, us = [u1, u2] ∧ RelV (.ref a) u1 ∧ RelV (.ref b) u2 := by
    cases r1 with
    | cons r rr => cases rr with
      | cons r' rr => cases rr; exact ⟨_, _, rfl, r, r'⟩
  cases ra
  cases rb
  obtain ⟨its, rv, p1, _⟩ := I1.list qx
  obtain ⟨its2, rv2, p2, _⟩ := I1.tuple qy
  have la : a < s1.heap.objs.size := p1.lt
  have lb : b < s1.heap.objs.size := by obtain ⟨o, ho, _⟩ := id p2; exact Heap.lt_size ho
  refine zip_begins2 (begins_list a its.toArray) (begins_tuple b its2.toArray) p1.isList p2 fun h' z1 z2 z3 z4 z5 z6 hk => wpAny_pyIter_zip z1 ?_
  have sep := zip_sep2 (N := s1.heap.objs.size) (fp1 := [a]) (fp2 := [b]) (fun c hc => by rw [List.mem_singleton.mp hc]; exact la) (fun c hc => by rw [List.mem_singleton.mp hc]; exact lb)
  refine ⟨_, _, _, _, H1, rfl, I1.kept (t' := s1.toks) hk, turn_zipM sep (Nat.ne_of_lt la) (Nat.ne_of_lt (Nat.lt_succ_of_lt lb)), ⟨z1, z2, ⟨_, _, z3⟩, ⟨_, z4, rfl, rfl⟩, ⟨_, z5, rfl, rfl⟩⟩, fun c hc => ?_, q⟩
  have hle : s1.heap.objs.size ≤ c := by
    simp only [List.mem_cons, List.not_mem_nil, or_false] at hc
    rcases hc with rfl | rfl | rfl | rfl | rfl
    · exact Nat.le_add_right _ _
    · exact Nat.le_add_right _ _
    · exact Nat.le_add_right _ _
    · exact Nat.le_refl _
    · exact Nat.le_add_right _ _
  exact I1.fpOk hle (I1.hok.fresh hle)
section
variable {K : PySem.W.Frag} {m : List Addr} {H : Hp} {X : Cx} {a b : Expr} {ga gb : GE} {gr : GA} {pos : Pos}
theorem walkV_zipM {p1 p2 : Addr} {xs ys : List VV} {vs : List V} {st : VH → Prop} (hst : ∀ m2 h2 H2, Ev K m m2 H H2 → RH K m2 h2 H2 → st h2 → ∃ us, SqL K H2 p1 us ∧ Rels K m2 H2 xs us) (s2 : FtT H p2 vs) (r2 : Rels K m H ys vs) : WalkV K m H (ItzM K p1 p2) (zipV xs ys) st := by
  refine ⟨fun Hh => SqT K Hh p2 vs ∧ ∃ us, SqL K Hh p1 us ∧ us.length = xs.length, fun i Hh v Hg => ∃ T x z, v = .ref T ∧ Hh T = none ∧ Hg = upd Hh T (.tup [x, z]) ∧ (∀ us, SqL K Hh p1 us → us[i]? = some x) ∧ vs[i]? = some z, ⟨fun i Hh hi ⟨q2, us, q1, l1⟩ => ?_, fun Hh ⟨q2, us, q1, l1⟩ => ?_, fun i Hh x Hg _ q y => ?_⟩, fun m2 h2 H2 e r s => ?_, fun i Hh x Hg m3 h3 y e rr s v hv => ?_⟩
  · rw [zipV_len] at hi
    have h1 : i < us.length := by omega
    have h2 : i < vs.length := by rw [← r2.len]; omega
    exact ⟨us, vs, us[i], vs[i], q1, q2, by simp [h1], by simp [h2]⟩
  · exact ⟨us, vs, q1, q2, by rw [zipV_len, r2.len, l1]⟩
  · obtain ⟨T, x, z, h1, h2, h3, h4, h5⟩ := y
    exact ⟨T, x, z, h1, h2, h3, h4, h5 vs q.1⟩
  · obtain ⟨us, q1, q2⟩ := hst m2 h2 H2 e r s
    exact ⟨(e.ft _ _ s2).sq, us, q1, q2.len.symm⟩
  · obtain ⟨T, x, z, rfl, hT, rfl, y1, y2⟩ := y
    obtain ⟨us, q1, q2⟩ := hst m3 h3 _ e rr s
    obtain ⟨v1, v2, e1, e2, rfl⟩ := zipV_get hv
    exact pair_new2 hT rr (q2.at_ i v1 x e1 (y1 us q1)) ((r2.at_ i v2 z e2 y2).mono e)
/-- zip(list, made tuple) -/
def giZipM (gr : GA) : GI := fun ρ h Q => gr ρ h fun vs h1 => match vs with
  | [.ref n, .ftp ys] => ∃ xs, h1[n]? = some (.lst xs) ∧ Q (zipV xs ys) (fun h2 => h2[n]? = some (.lst xs)) h1
  | _ => False
theorem mizM {p tpos : Pos} {elts : List Expr} {kk : Nat} (hm : X.mg "zip" = none) (ha : MA X [a, b] gr) (hg : Gl X "zip" := by rfl)
    (hs : starEach [a, b] X.env = (false, eval a X.env) :: starEach [b] X.env := by rfl) (hpl : (backTo pos (starEach [b] X.env)).any (·.1) = false := by rfl) :
    MI X (.Tuple elts kk tpos) (.Call (.Name "zip" p) [a, b] [] pos) (giZipM gr) := by
  obtain ⟨t, a1, a2⟩ := ha.ex
  refine ⟨_, pi_zipM hg hm a1 hs hpl, fun m h H ρ σ QV R rh re hg k => a2 m h H ρ σ _ _ rh re hg fun m1 H1 h1 vs ws e1 r1 t1 q => ?_⟩
  split at q
  · rename_i n ys
    obtain ⟨xs, hn, q⟩ := q
    obtain ⟨y1, y2, rfl, u1, u2⟩ := rels2 t1
    obtain ⟨pa, rfl, ea⟩ := RelT.ref_inv u1
    obtain ⟨us, c1, c2⟩ := r1.obj n _ pa hn ea
    obtain ⟨pb, vs, rfl, hp, rr⟩ := RelT.ftp_inv u2
    exact ⟨pa, pb, us, vs, rfl, .of c1, hp.sq, k m1 H1 h1 _ _ _ e1 r1 (walkV_zipM (fun m2 h2 H2 e2 r2 s2 => by
      obtain ⟨us', c1', c2'⟩ := r2.obj n _ pa s2 (e2.pre _ _ ea)
      exact ⟨us', .of c1', c2'⟩) hp rr) q⟩
  · exact q.elim
def kZipM (Q : List VV → (VH → Prop) → VH → Prop) (vs : List VV) (h1 : VH) : Prop := match vs with
  | [.ref n, .ftp ys] => ∃ xs, h1[n]? = some (.lst xs) ∧ Q (zipV xs ys) (fun h2 => h2[n]? = some (.lst xs)) h1
  | _ => False
theorem t_zipM {ρ : VL.Env} {h : VH} {Q : List VV → (VH → Prop) → VH → Prop} (q : gr ρ h fun vs h1 => kZipM Q vs h1) : giZipM gr ρ h Q := q
theorem t_kzipM {h : VH} {n : Nat} {xs ys : List VV} {Q : List VV → (VH → Prop) → VH → Prop} (e : h[n]? = some (.lst xs)) (q : Q (zipV xs ys) (fun h2 => h2[n]? = some (.lst xs)) h) : kZipM Q [.ref n, .ftp ys] h := ⟨xs, e, q⟩
/-! ### t.count(v) of a tuple that the program made -/
theorem cnt_eqU {y : V} : ∀ {ys : List V} {us : List Value}, Vals ys us → ys.all flatV = true → us.countP (eqU y) = ys.countP fun z => eqV z y
  | _, _, .nil, _ => rfl
  | z :: ys, u :: us, .cons r t, f => by
    rw [List.all_cons, Bool.and_eq_true] at f
    rw [List.countP_cons, List.countP_cons, cnt_eqU t f.2, eqU_of r f.1]
def rTcnt : V → List V → Hp → VK → Prop := fun x xs H Q => ∃ (p : Addr) (ys : List V) (y : V), x = .ref p ∧ xs = [y] ∧ FtT H p ys ∧ flatV y = true ∧ ys.all flatV = true ∧ Q (.int ((ys.countP fun z => eqV z y : Nat) : Int)) H
theorem mt_tcnt : MtR X "tuple.count" rTcnt := by
  intro pins s σ H x xs v us Q I rx rs hw
  obtain ⟨p, ys, y, rfl, rfl, hq, fy, fys, q⟩ := hw
  cases rx
  obtain ⟨u, rfl, ru⟩ := vals1 rs
  obtain ⟨its, r, ⟨⟨cls, dd, dt, sl⟩, ho, hc, n, hd⟩, _⟩ := I.tuple (FtT.sq (K := X.K) hq)
  simp only at hc hd
  subst hc hd
  refine call_meets PySem.F.slot_tuple_count ⟨_, ho, rfl⟩ PySem.F.entry_tuple_count (PySem.F.args_tuple_count_2 _ _) (SeqAt.tuple_countAt p its.toArray n dd sl u (eqU y)) ⟨ho, fun w hw => mem_eqAt ru fy r fys w (by simpa using hw), ⟨V.int ((its.toArray.toList.countP (eqU y) : Nat) : Int), H, I.tok _, ⟨_, rfl⟩, ?_⟩⟩
  show Q (.int ((its.countP (eqU y) : Nat) : Int)) H
  rw [cnt_eqU r fys]; exact q
def kTcnt (gb : GE) (ρ : VL.Env) (Q : R → VH → Prop) (r : R) (h1 : VH) : Prop := ∃ xs, r = .val (.ftp xs) ∧ gb ρ h1 fun s h2 => ∃ v : VV, s = .val v ∧ flatVV v = true ∧ xs.all flatVV = true ∧ Q (.val (.int ((xs.countP fun z => eqF z v : Nat) : Int))) h2
def gTcnt (ga gb : GE) : GE := fun ρ h Q => ga ρ h fun r h1 => kTcnt gb ρ Q r h1
theorem cnt_ok {K : PySem.W.Frag} {m : List Addr} {H : Hp} {v : VV} {y : V} (rv : RelT K m H v y) (fv : flatVV v = true) : ∀ {xs : List VV} {ys : List V}, Rels K m H xs ys → xs.all flatVV = true → (ys.countP fun z => eqV z y) = xs.countP fun z => eqF z v
  | [], [], _, _ => rfl
  | [], _ :: _, r, _ => by have := r.len; simp at this
  | _ :: _, [], r, _ => by have := r.len; simp at this
  | x :: xs, z :: ys, r, f => by
    obtain ⟨r1, r2⟩ := rels_cons r
    rw [List.all_cons, Bool.and_eq_true] at f
    rw [List.countP_cons, List.countP_cons, cnt_ok rv fv r2 f.2, eqF_ok r1 rv f.1 fv]
theorem mtcnt {apos cpos : Pos} (ha : MX X a ga) (hb : MX X b gb) (h1 : attributeBase a "count" X.env (eval a X.env) = eval a X.env := by rfl)
    (h2 : (((backTo cpos (starEach [b] X.env)).all (fun x => !x.1) && (backToKw cpos (keywordEach [] X.env)).all (fun x => x.1.isSome)) && decide (([b].length + ([] : List Keyword).length + if ([] : List Keyword).isEmpty = true then 0 else 1) < 30)) = true := by rfl)
    (h3 : (apos.endLine == cpos.line) = true := by rfl) (hs : starEach [b] X.env = [(false, eval b X.env)] := by rfl) : MX X (.Call (.Attribute a "count" apos) [b] [] cpos) (gTcnt ga gb) := by
  obtain ⟨t, a1, a2⟩ := ha.ex
  obtain ⟨u, b1, b2⟩ := hb.ex
  refine ⟨_, pe_tm (T := "tuple") PySem.F.plainAttrs_tuple PySem.F.slot_tuple_count PySem.F.type_tuple_count mt_tcnt a1 (pa_cons b1 pa_nil hs) h1 h2 h3 hs rfl, fun m h H ρ σ QV Q rh re hg k => a2 m h H ρ σ _ _ rh re hg fun m1 H1 h1 r x p q => ?_⟩
  obtain ⟨xs, rfl, q⟩ := q
  obtain ⟨pa, ys, rfl, hp, rr⟩ := RelT.ftp_inv p.rr
  refine ⟨⟨pa, ys, rfl, hp⟩, b2 m1 h1 H1 ρ σ _ _ p.rh (re.mono p.ev) q fun m2 H2 h2 s y p2 q2 => ?_⟩
  obtain ⟨v, rfl, fv, fx, q2⟩ := q2
  have r2 := rr.mono p2.ev
  refine ⟨pa, ys, y, rfl, rfl, p2.ev.ft _ _ hp, flat_ok p2.rr fv, (any_ok p2.rr fv r2 fx).1, ?_⟩
  rw [cnt_ok p2.rr fv r2 fx]
  exact k _ _ _ _ _ ((Pst.val p2.rh .int).from_ (p.ev.trans p2.ev) p2.rh) q2
theorem t_tcnt {ρ : VL.Env} {h : VH} {Q : R → VH → Prop} (q : ga ρ h fun r h1 => kTcnt gb ρ Q r h1) : gTcnt ga gb ρ h Q := q
end
end VL

set_option autoImplicit false
/-! VL63: parts of tuples of either kind, and their +. -/
namespace VL
open PySem L2
section
variable {K : PySem.W.Frag} {m : List Addr} {H : Hp} {X : Cx} {a : Expr} {ga : GE} {pos : Pos}
theorem tupV_rel {v : VV} {xs : List VV} {x : V} (e : tupV v = some xs) (r : RelT K m H v x) : ∃ (p : Addr) (ys : List V), x = .ref p ∧ SqT K H p ys ∧ Rels K m H xs ys := by
  cases v with
  | tup us =>
    cases e
    obtain ⟨p, ys, rfl, s, q⟩ := RelT.tup_raw r
    exact ⟨p, ys, rfl, .of s, q⟩
  | ftp us =>
    cases e
    obtain ⟨p, ys, rfl, s, q⟩ := RelT.ftp_inv r
    exact ⟨p, ys, rfl, s.sq, q⟩
  | _ => cases e
def gSlV (ga : GE) (gl gu : GP) : GE := fun ρ h Q => ga ρ h fun r h1 => gl ρ h1 fun lo h2 => gu ρ h2 fun hi h3 => ∃ v xs, r = .val v ∧ tupV v = some xs ∧ ∀ w, tupV w = some (cutVV xs lo hi) → Q (.val w) h3
theorem mslV {lo hi : Option Expr} {gl gu : GP} {p2 : Pos} (ha : MX X a ga) (hl : MP X lo gl) (hu : MP X hi gu) : MX X (.Subscript a (.Slice lo hi none p2) pos) (gSlV ga gl gu) := by
  obtain ⟨t, a1, a2⟩ := ha.ex
  obtain ⟨tl, l1, l2⟩ := hl.ex
  obtain ⟨tu, u1, u2⟩ := hu.ex
  refine ⟨_, pe_slice sl_tupA a1 l1 u1, fun m h H ρ σ QV Q rh re hg k => a2 m h H ρ σ _ _ rh re hg fun m1 H1 h1 r x p1 q1 => l2 m1 h1 H1 ρ σ _ _ p1.rh (re.mono p1.ev) q1 fun m2 H2 h2 lo e2 r2 q2 => u2 m2 h2 H2 ρ σ _ _ r2 (re.mono (p1.ev.trans e2)) q2 fun m3 H3 h3 hi e3 r3 q3 => ?_⟩
  obtain ⟨v, xs, rfl, ev, q⟩ := q3
  have e13 := e2.trans e3
  have rr := p1.rr.mono e13
  have e03 := p1.ev.trans e13
  obtain ⟨p, ys, rfl, s, r⟩ := tupV_rel ev rr
  refine ⟨p, ys, rfl, s, fun e => ?_, fun _ l hq => k m3 _ h3 _ _ ((Pst.tup r3 hq (r.cutv lo hi)).from_ e03 r3) (q (.tup (cutVV xs lo hi)) rfl)⟩
  rw [← r.len] at e
  exact k m3 H3 h3 _ _ ((Pst.val r3 rr).from_ e03 r3) (q v (by rw [ev, full_cut e]))
def goAddV : GO := fun x y h Q => ∃ v w s t, x = .val v ∧ y = .val w ∧ tupV v = some s ∧ tupV w = some t ∧ s.length + t.length ≤ sizeLine ∧ ∀ u, tupV u = some (s ++ t) → Q (.val u) h
theorem mo_addV : MO X (binaryOp .Add) goAddV := by
  refine ⟨_, op_catA, fun m h H x y rx ry QV Q rh r1 r2 q k => ?_⟩
  obtain ⟨v, w, s, t, rfl, rfl, ev, ew, l, q⟩ := q
  obtain ⟨p1, ys, rfl, h2, h3⟩ := tupV_rel ev r1
  obtain ⟨p2, zs, rfl, k2, k3⟩ := tupV_rel ew r2
  refine ⟨p1, p2, ys, zs, rfl, rfl, h2, k2, by rw [← h3.len, ← k3.len]; exact l, fun e => ?_, fun e1 e => ?_, fun _ _ p hp => ?_⟩
  · have e2 : s = [] := by rw [← List.length_eq_zero_iff, h3.len, e]; rfl
    subst e2
    exact k m H h _ _ (.val rh r2) (q w (by rw [ew]; rfl))
  · have e2 : t = [] := by rw [← List.length_eq_zero_iff, k3.len, e]; rfl
    subst e2
    exact k m H h _ _ (.val rh r1) (q v (by rw [ev, List.append_nil]))
  · exact k m _ h _ _ (.tup rh hp (h3.append k3)) (q (.tup (s ++ t)) rfl)
theorem t_slV {ρ : VL.Env} {h : VH} {Q : R → VH → Prop} {gl gu : GP} (q : ga ρ h fun r h1 => gl ρ h1 fun lo h2 => gu ρ h2 fun hi h3 => ∃ v xs, r = .val v ∧ tupV v = some xs ∧ ∀ w, tupV w = some (cutVV xs lo hi) → Q (.val w) h3) : gSlV ga gl gu ρ h Q := q
theorem t_addV {v w : VV} {s t : List VV} {h : VH} {Q : R → VH → Prop} (e1 : tupV v = some s) (e2 : tupV w = some t) (l : s.length + t.length ≤ 1000) (q : ∀ u, tupV u = some (s ++ t) → Q (.val u) h) : goAddV (.val v) (.val w) h Q := ⟨v, w, s, t, rfl, rfl, e1, e2, Nat.le_trans l (by decide), q⟩
end
end VL

set_option autoImplicit false
/-! VL64: own exceptions made: __init__ says super().__init__(..) and sets one field. -/
namespace VL
open PySem PySem.W PySem.Calls PyProof.Rows
section
variable {prog : Program} {w : World} {A : Around} {R : Result → Shared → Prop} {hp : Heap} {g : Array GenState} {d : Drawn} {t : Nat} {os : OsState}
variable {K : Frag} {mg mb : Str → Option Value} {C e t0 f cc cda : Addr} {u : Value} {fld prm slf : Str} {arg : Expr} {q : Str} {params : Arguments} {scope : Scope} {kV doc pm ct oc ccl cl : Value} {an od cdd cld : Option Addr} {osl ccs csl : Array (Option Value)} {vs : Array Value} {file : Str} {tf : Tok} {ar : Arg}
  {p0 p1 ap cp p2 p3 p4 p5 p6 : Pos}
theorem call_mw {A : Around} {E : Value → Shared → Prop} {e u t0 : Addr} {nm q : Str} {N : Addr} {bs bm : List Value} {hdct : Bool} {sn : List Str} {sub : List Value} {ab : Bool} {col : Option Bool} {dd : Option Addr} {k0 k1 k2 k3 k5 : Option Value} {rest : List Value} {Q : Value → Shared → Prop}
    (hC : hp.get? C = some (excClassObj nm q C N bs bm hdct sn sub ab col dd k0 k1 k2 k3 k5 "ValueError.__new__")) (hu : hp.get? u = some (kxs_mw "ValueError.__init__" e)) (he : hp.get? e = some (HandSPX.excO C t0)) (hrest : rest.length ≤ sizeLine)
    (hq : ∀ h' t1, (∀ b o, b ≠ e → hp.get? b = some o → h'.get? b = some o) → h'.get? e = some (HandSPX.excO C t1) → Q .none ⟨h', g, d, t, os⟩) :
    wpAny (model prog w) A (call (.ref u) rest) Q E ⟨hp, g, d, t, os⟩ := by
  refine wpAny_call (codeAny_of_tree ?_)
  show wpAny _ A.in1 (callAny (.ref u) ⟨rest, []⟩) _ _ _
  simp only [callAny]
  refine wpAny_bind (wpAny_load hu ?_)
  simp only [kxs_mw, show (Value.type "method-wrapper" == Value.type "method" || Value.type "method-wrapper" == Value.type "builtin_function_or_method" || Value.type "method-wrapper" == Value.type "method-wrapper") = true by decide, if_true]
  refine KFB.if_so (by decide) ?_
  refine wpAny_bind (check_bound_init F.excBase_ValueError.toExcCallFacts hC he rfl ?_)
  refine wpAny_bind (wpAny_pure (wpAny_pure ?_))
  refine ⟨plainId_quiet F.excBase_ValueError.init.plain _, codeAny_builtin F.excBase_ValueError.initEntry ?_⟩
  exact exc_init_tree (cls := .ref C) (t0 := t0) (dv := none) (c2 := .none) (c3 := .none) (b4 := .bool false) he hrest fun h' k1 k2 _ => hq h' _ k1 k2
/-- the text of the __init__ -/
def exBody (arg : Expr) (fld slf prm : Str) (p0 p1 ap cp p2 p3 p4 p5 p6 : Pos) : List Stmt :=
  [.Expr (.Call (.Attribute (.Call (.Name "super" p0) [] [] p1) "__init__" ap) [arg] [] cp) p2, .Assign [.Attribute (.Name slf p3) fld p4] (.Name prm p5) p6]
/-- what the written part says of the class and of its __init__ -/
structure ExcT (prog : Program) (K : Frag) (C f : Addr) (fld slf prm : Str) (arg : Expr) (scope : Scope) : Prop where
  cls : L2.OexC K C
  fn : ∃ (q : Str) (params : Arguments) (kV doc pm ct oc : Value) (an od : Option Addr) (osl : Array (Option Value)) (cda cc : Addr) (ar : Arg) (p0 p1 ap cp p2 p3 p4 p5 p6 : Pos),
    K.lookup f = some ⟨oc, od, .func (ksFn "__init__" q params (exBody arg fld slf prm p0 p1 ap cp p2 p3 p4 p5 p6) scope .none kV doc pm an (.ref cda) ct cc), osl⟩ ∧ codeIn K (.ref cda) q = true ∧
    (params.posonlyargs ++ params.args).head? = some ar ∧ ar.arg = slf ∧ (∀ us : List Value, us.length = 2 → bindArgs (ksFn "__init__" q params (exBody arg fld slf prm p0 p1 ap cp p2 p3 p4 p5 p6) scope .none kV doc pm an (.ref cda) ct cc) ⟨us, []⟩ = pure ([slf, prm].zip us)) ∧
    (∃ ccl cdd vs ccs file tf, K.lookup cda = some ⟨ccl, cdd, .fields vs, ccs⟩ ∧ vs[2]? = some (.str file tf) ∧ ((prog.main.file : Str) == file) = true) ∧ (∃ cl cld csl, K.lookup cc = some ⟨cl, cld, .cell (some (.ref C)), csl⟩) ∧
    (∀ L g, ∃ pl : Sem Bool, eval (.Call (.Attribute (.Call (.Name "super" p0) [] [] p1) "__init__" ap) [arg] [] cp) (ksEnv q scope L g (.ref cda) cc) = (do
      let ov ← attributeBase (.Call (.Name "super" p0) [] [] p1) "__init__" (ksEnv q scope L g (.ref cda) cc) (eval (.Call (.Name "super" p0) [] [] p1) (ksEnv q scope L g (.ref cda) cc))
      standAt ap.atName
      let (f₁, first) ← holding [ov] (getMethod ov "__init__" pl)
      callWith cp f₁ first (backTo cp [(false, eval arg (ksEnv q scope L g (.ref cda) cc))]) [])) ∧
    (∀ L g, swapsWith (.Call (.Attribute (.Call (.Name "super" p0) [] [] p1) "__init__" ap) [arg] [] cp) none p2.line (ksEnv q scope L g (.ref cda) cc) = pure false) ∧
    (∀ L f, swapsWith (.Name prm p5) (some (.Attribute (.Name slf p3) fld p4)) p6.line (ksEnv q scope L f (.ref cda) cc) = pure false)
  ini : findIn K (.ref C) "__init__" = some (some (.ref f))
  tI : typeIn K (.ref f) = some (.type "function")
  sup : ks_superIn K C C "__init__" = some (some (.builtin "ValueError.__init__"))
  sub : mroIn K C (.ref C) = some true
  subV : subIn K (.ref C) (.type "ValueError") = some true
  any : nsIn K cStatics "thirdparty.any" = some none
  noS : nsIn K mainGlobals "super" = some none
  noF : findIn K (.ref C) fld = some none
  ks : scope.names.lookup ("super" : Str) = some .globalImplicit
  kc : scope.names.lookup ("__class__" : Str) = some .free
  kslf : scope.names.lookup slf = some .local
  kprm : scope.names.lookup prm = some .local
  ncell : ∀ x ∈ scope.names, x.2 ≠ .cell
  co : scope.isCoroutine = false
  gen : scope.isGenerator = false
  kind : scope.kind = .function
  ne : slf ≠ prm
  dbg1 : (slf == ("__debug__" : Str)) = false
  dbg2 : (prm == ("__debug__" : Str)) = false
  top : (prog.main.scope.names.lookup ("super" : Str)).isSome = false
/-- the argument of super().__init__ gives a text -/
def ArgT (prog : Program) (w : World) (arg : Expr) (scope : Scope) (prm : Str) (okU : Value → Prop) : Prop := ∀ (q : Str) (L f : Addr) (cd : Value) (cc : Addr) (A : Around) (E : Value → Shared → Prop) (s : Shared) (m : Str → Option Value) (u : Value) (Q : Value → Shared → Prop),
  s.heap.Ns L m → m prm = some u → okU u → (∀ v t', Q v { s with toks := t' }) → wpAny (model prog w) A (eval arg (ksEnv q scope L f cd cc)) Q E s
theorem einit_code {okU : Value → Prop} (T : ExcT prog K C f fld slf prm arg scope) (AT : ArgT prog w arg scope prm okU) (hu : okU u) (hroom : A.depth < recursionLimit) (X : K.In hp) (G : hp.Ns mainGlobals mg) (B : hp.Ns builtinsNs mb) (hmb : ∀ x : Str, x ≠ "__name__" → mb x = bootBuiltins x) (hlim : hp.NoLimit)
    (he : hp.get? e = some (HandSPX.excO C t0)) (hKe : ∀ o, K.lookup e ≠ some o) (hq : ∀ h' t' dx t1, (∀ b o, b ≠ e → hp.get? b = some o → h'.get? b = some o) → hp.objs.size ≤ dx → h'.get? e = some ({ cls := .ref C, dict := some dx, data := .fields #[.ref t1, .none, .none, .none, .bool false, .none] } : Obj) →
      h'.Ns1 dx (fun y => if y = fld then some u else none) → R (.ok (.ret .none)) ⟨h', g, d, t', os⟩) :
    codeAny (model prog w) A (.call (.ref f) ⟨[.ref e, u], []⟩) R ⟨hp, g, d, t, os⟩ := by
  obtain ⟨q, params, kV, doc, pm, ct, oc, an, od, osl, cda, cc, ar, p0, p1, ap, cp, p2, p3, p4, p5, p6, ho, hcd, har, rfl, hb, ⟨ccl, cdd, vs, ccs, file, tf, hcode, hvs, hfile⟩, ⟨cl, cld, csl, hcell⟩, hev, hs1, hsw⟩ := T.fn
  have hbind : BindsTo ⟨hp, g, d, t, os⟩ (ksFn "__init__" q params (exBody arg fld ar.arg prm p0 p1 ap cp p2 p3 p4 p5 p6) scope .none kV doc pm an (.ref cda) ct cc) ⟨[.ref e, u], []⟩ [(ar.arg, .ref e), (prm, u)] := .of_eq (hb [.ref e, u] rfl)
  refine ks_codeAny_call_defAt (fd := ksFn "__init__" q params (exBody arg fld ar.arg prm p0 p1 ap cp p2 p3 p4 p5 p6) scope .none kV doc pm an (.ref cda) ct cc) (body := exBody arg fld ar.arg prm p0 p1 ap cp p2 p3 p4 p5 p6) (binds := [(ar.arg, .ref e), (prm, u)]) hroom (X _ _ ho) rfl hlim (codeRec_of X hcd) rfl hbind T.ncell (fun y hy => ?_) (fun h₁ hns k1 => ?_) T.co T.gen T.kind
  · rcases List.mem_cons.mp hy with rfl | hy
    · exact T.kslf
    · rw [List.mem_singleton.mp hy]; exact T.kprm
  obtain ⟨nm, qn, N, bs, bm, sn, sb, ab, col, dd, z0, z1, z2, z3, z5, hC, hbm⟩ := T.cls.cls
  have hC' := X _ _ hC
  have hcl : clsIn K C = some { name := nm, bases := bs, mro := .ref C :: bm, ns := N, qualname := qn, hasDict := true, slotNames := sn, subclasses := sb, abstract := ab, collection := col, hasDel := false } := by unfold clsIn; rw [hC] <;> rfl
  have X1 := X.keeps k1
  have he1 := k1 _ _ he
  have l1 : ([(ar.arg, Value.ref e), (prm, u)] : List (Str × Value)).reverse.lookup ar.arg = some (.ref e) := by
    show List.lookup ar.arg [(prm, u), (ar.arg, Value.ref e)] = _
    rw [List.lookup_cons, show (ar.arg == prm) = false from beq_eq_false_iff_ne.mpr T.ne]
    simp
  have l2 : ([(ar.arg, Value.ref e), (prm, u)] : List (Str × Value)).reverse.lookup prm = some u := by
    show List.lookup prm [(prm, u), (ar.arg, Value.ref e)] = _
    simp
  obtain ⟨pl, hev⟩ := hev hp.objs.size f
  have hint : interactive (ksEnv q scope hp.objs.size f (.ref cda) cc) = false := by
    unfold interactive
    simp [T.kind]
  refine ks_wpAt_execs_cons (ks_wpAt_Expr_any ?_ hint (hs1 _ _))
  show PySem.wpAt _ _ _ (eval _ (ksEnv q scope hp.objs.size f (.ref cda) cc)) _ _ _
  rw [hev]
  refine PySem.wpAt_bind (PySem.wpAt_mono ?_ (fun ov s₁ h₁ => PySem.wpAt_of_wpAny (wpAny_bind (wpAny_standAt (wpAny_bind (wpAny_holding h₁))))) fun _ _ x => x)
  refine ks_wpAt_super_base T.ks T.kc (by decide) rfl (X1 _ _ ho) rfl har rfl (X1 _ _ hcode) rfl hvs hfile T.top ?_
  refine ks_loadName_global T.kind T.ks (loadGlobal_builtin (G.keeps k1) (mg_none_of X G T.noS) (B.keeps k1) ((hmb _ (by decide)).trans PyProof.Rows.Boot.«super») ⟨rfl, ?_⟩)
  refine wpAny_loadName_free T.kind T.kc rfl ⟨_, X1 _ _ hcell, rfl⟩ ?_
  refine wpAny_loadName_local T.kind T.kslf hns l1 ?_
  have hD := X1 _ _ hC
  refine ks_wpAny_isType_cls hD rfl ⟨rfl, ?_⟩
  refine ks_wpAny_call_super hD rfl he1 rfl (fun c z => by cases z) (looks_mroIn X1 T.sub) (fun h2 e2 k2 => ?_)
  have X2 := X1.keeps k2
  have he2 := k2 _ _ he1
  have I2 : InstAt h2 e (HandSPX.excO C t0) C none := ⟨he2, rfl, rfl, trivial⟩
  have hsup := T.sup
  unfold ks_superIn at hsup
  rw [hcl] at hsup
  refine kxs_getMethod kxs_ValueError e2 (looks_opaque X2 T.any) (l₀ := .ref C :: bm) (fun A Q E s k q => wpAny_bind ((looks_clsIn X2 hcl) A _ E s k (wpAny_pure q))) rfl X2 hsup (I2.type.andThen (looks_subIn X2 T.subV)) (ks_ne X2 I2 hcl) (by decide) ?_
  have p3' : ∀ b o, h2.get? b = some o → (h2.push (kxs_mw "ValueError.__init__" e)).get? b = some o := fun b o z => Heap.get?_push_of_some _ z
  have kAll : ∀ b o, hp.get? b = some o → (h2.push (kxs_mw "ValueError.__init__" e)).get? b = some o := fun b o z => p3' _ _ (k2 _ _ (k1 _ _ z))
  show wpAny _ _ (callWith cp (.ref h2.objs.size) [] [(false, eval arg (ksEnv q scope hp.objs.size f (.ref cda) cc))] []) _ _ _
  refine kxs_callWith (i := "ValueError.__init__") (x := e) rfl (evalArgs_plain (spliced_cons ?_))
  refine AT q hp.objs.size f (.ref cda) cc _ _ _ _ u _ ((hns.keeps k2).keeps p3') l2 hu (fun v t' => spliced_nil ⟨Heap.get?_push_size h2 rfl, ?_⟩)
  refine call_mw (kAll _ _ hC') (Heap.get?_push_size h2 rfl) (kAll _ _ he) (by show 1 ≤ sizeLine; rw [sizeLine_eq]; omega) fun h4 t1 k4 e4 => ?_
  have Le : hp.objs.size ≠ e := Nat.ne_of_gt (Heap.lt_size he)
  obtain ⟨oL, es, ep, hL, r⟩ := hns
  have hns4 : h4.Ns hp.objs.size (fun x => ([(ar.arg, Value.ref e), (prm, u)] : List (Str × Value)).reverse.lookup x) := ⟨oL, es, ep, k4 _ _ Le (p3' _ _ (k2 _ _ hL)), r⟩
  have X4 : K.In h4 := fun b o z => k4 b o (fun y => hKe o (y ▸ z)) (kAll _ _ (X _ _ z))
  refine ks_wpAt_execs_cons (ks_wpAt_Assign_Attr ?_ (hsw _ _))
  refine PySem.wpAt_of_wpAny (wpAny_Name ?_ T.dbg2)
  refine wpAny_loadName_local (m := fun x => ([(ar.arg, Value.ref e), (prm, u)] : List (Str × Value)).reverse.lookup x) T.kind T.kprm hns4 l2 ?_
  refine wpAny_Name ?_ T.dbg1
  refine wpAny_loadName_local (m := fun x => ([(ar.arg, Value.ref e), (prm, u)] : List (Str × Value)).reverse.lookup x) T.kind T.kslf hns4 l1 ?_
  refine set_plain X4 (ox := HandSPX.excO C t1) (od := none) ⟨e4, rfl, rfl, trivial⟩ T.cls.sa ?_
  refine HandSPX.exc_osa X4 e4 hcl (show HandSPX.refsVE (.ref C :: bm) = true from hbm) rfl T.noF (fun h5 tk' dx k5' d5 ne5 e5 n5 => ?_)
  have sz : hp.objs.size ≤ h4.objs.size := by
    exact Nat.le_of_lt (Heap.lt_size (k4 _ _ Le (p3' _ _ (k2 _ _ hL))))
  exact PySem.wpAt_of_wpAny (wpAny_execs_nil (hq h5 _ dx t1 (fun b o hb z => k5' b o hb (k4 b o hb (kAll _ _ z))) (Nat.le_trans sz d5) e5 n5))
theorem ecall_code {okU : Value → Prop} (T : ExcT prog K C f fld slf prm arg scope) (AT : ArgT prog w arg scope prm okU) (hu : okU u) (hroom : (A.under (.builtin "type.__call__" ⟨[.ref C, u], []⟩)).depth < recursionLimit) (X : K.In hp) (G : hp.Ns mainGlobals mg) (B : hp.Ns builtinsNs mb) (hmb : ∀ x : Str, x ≠ "__name__" → mb x = bootBuiltins x) (hlim : hp.NoLimit)
    (hq : ∀ h' t' e dx t1, (∀ b o, hp.get? b = some o → h'.get? b = some o) → hp.objs.size ≤ e → hp.objs.size ≤ dx → dx ≠ e → h'.get? e = some ({ cls := .ref C, dict := some dx, data := .fields #[.ref t1, .none, .none, .none, .bool false, .none] } : Obj) →
      h'.Ns1 dx (fun y => if y = fld then some u else none) → R (.ok (.ret (.ref e))) ⟨h', g, d, t', os⟩) :
    codeAny (model prog w) A (.call (.ref C) ⟨[u], []⟩) R ⟨hp, g, d, t, os⟩ := by
  obtain ⟨nm, qn, N, bs, bm, sn, sb, ab, col, dd, z0, z1, z2, z3, z5, hC, hbm⟩ := T.cls.cls
  have kk : ∀ b o, hp.get? b = some o → ((hp.push (kdv_tup [u])).push (HandSPX.excO C hp.objs.size)).get? b = some o := fun b o e => Heap.get?_push_of_some _ (Heap.get?_push_of_some _ e)
  have hget : ((hp.push (kdv_tup [u])).push (HandSPX.excO C hp.objs.size)).get? (hp.objs.size + 1) = some (HandSPX.excO C hp.objs.size) := by heap_get
  refine HandSPX.call_own F.excBase_ValueError (fun Y => HandSPX.refsVE_contains Y bm hbm) (X _ _ hC) (looks_findIn X T.ini) (fun self => bind_fn X self T.tI) (by show 1 ≤ sizeLine; rw [sizeLine_eq]; omega) ?_
  have sz : hp.objs.size + 1 < ((hp.push (kdv_tup [u])).push (HandSPX.excO C hp.objs.size)).objs.size := Heap.lt_size hget
  refine einit_code T AT hu hroom (X.keeps kk) (G.keeps kk) (B.keeps kk) hmb (hlim.keeps kk) hget (fun o z => ?_) (fun h' t' dx t1 k d1 e1 n1 => ?_)
  · exact absurd (Heap.lt_size (X _ _ z)) (Nat.not_lt.mpr (Nat.le_succ _))
  · refine ⟨rfl, hq h' t' (hp.objs.size + 1) dx t1 (fun b o z => k b o ?_ (kk b o z)) (Nat.le_succ _) (Nat.le_trans (Nat.le_of_lt (Nat.lt_of_succ_lt sz)) d1) (Nat.ne_of_gt (Nat.lt_of_lt_of_le sz d1)) e1 n1⟩
    exact Nat.ne_of_lt (Nat.lt_succ_of_lt (Heap.lt_size z))
end
open L2
theorem exq_ok {P : Program} {w : World} {H : Hp} {h : Heap} {a C d : Addr} {oe : Obj} {vs : Array Value} (e : h.get? a = some oe) (z : Zc (.ref C) (some d) oe) (dd : oe.data = .fields vs) : ObjOk P w H h a (exq a C d) :=
  ⟨⟨oe, vs, e, z, dd⟩, ⟨oe, e⟩, fun _ _ ⟨o, v, q, r⟩ k => ⟨o, v, k o q, r⟩⟩
theorem exq_at {P : Program} {w : World} {H : Hp} {h : Heap} {a C d : Addr} (hok : HOk P w H h) (he : H a = some (exq a C d)) : ∃ (oe : Obj) (vs : Array Value), h.get? a = some oe ∧ Zc (.ref C) (some d) oe ∧ oe.data = .fields vs := by
  have x : ObjOk P w H h a (.ext fun h => ∃ (oe : Obj) (vs : Array Value), h.get? a = some oe ∧ Zc (.ref C) (some d) oe ∧ oe.data = .fields vs) := hok a _ he
  exact x.1
section
variable {X : Cx} {C f : Addr} {fld slf prm : Str} {arg e0 : Expr} {scope : Scope} {okU : Value → Prop} {te : TE} {x : Str} {p pos : Pos}
/-- C(e), to be raised -/
theorem pmk_exc (T : ExcT X.prog X.K C f fld slf prm arg scope) (AT : ArgT X.prog X.w arg scope prm okU) (hr : Room 1 X.A) (hg : Gl X x) (hm : X.mg x = some (.ref C)) (he0 : PE X e0 te)
    (hdb : (x == ("__debug__" : Str)) = false := by decide) (he : starEach [e0] X.env = (false, eval e0 X.env) :: starEach [] X.env := by rfl) :
    PMk X (.Call (.Name x p) [e0] [] pos) (fun σ H Q => te σ H fun v H1 => (∀ u, RelV v u → okU u) ∧ ∀ dx, H1 dx = none → Q (.ref C) (some dx) (upd H1 dx (.xd [(fld, v)]))) := by
  intro pins s σ H Q I h
  refine wpAny_Call_Name_kw (ld_glob I hg hm ?_ hdb)
  have ha : PA X [e0] (tCons te tNil) := pa_cons he0 pa_nil he
  refine PySem.W.callWith_K (h₀ := X.base) I.ok.mod.kin T.cls.kC (thn (ha.run pos pins s σ H (fun vs H1 => match vs with | [v] => (∀ u, RelV v u → okU u) ∧ ∀ dx, H1 dx = none → Q (.ref C) (some dx) (upd H1 dx (.xd [(fld, v)])) | _ => False) I h) fun us s1 ⟨vs, H1, I1, r1, q1⟩ => ⟨I1.kIn, ?_⟩) he rfl
  dsimp only at q1
  split at q1
  · rename_i v
    obtain ⟨hok, q1⟩ := q1
    obtain ⟨u, rfl, ru⟩ := vals1 r1
    show wpAny _ _ (call (.ref C) [u]) _ _ _
    obtain ⟨mb, hB, hmb⟩ := I1.ok.mod.blt
    obtain ⟨hp, g, dr, tk, os⟩ := s1
    refine wpAny_call (ecall_code T AT (hok u ru) (hr.make C [u] []).depth I1.kIn (I1.ok.mod.glob.keeps I1.bk) (hB.keeps I1.bk) hmb I1.nolimit fun h' t' e dx t1 k s1 s2 ne e1 n1 => ?_)
    obtain ⟨G, g1, g2⟩ := restrict h' fun b => decide (b ≠ e)
    have gk : ∀ b, b ≠ e → G.get? b = h'.get? b := fun b hb => g1 b (decide_eq_true hb)
    have ge : G.get? e = none := g2 e (by simp)
    have nd : H1 dx = none := I1.hok.fresh s2
    have lt : ∀ {b : Addr} {o : Obj}, hp.get? b = some o → b ≠ e := fun z => Nat.ne_of_lt (Nat.lt_of_lt_of_le (Heap.lt_size z) s1)
    have rel : ∀ y, L2.RelO (([(fld, v)] : List (Str × V)).lookup y) (if y = fld then some u else none) := fun y => relO_put (fs := []) (mA := fun _ => none) ru (fun g => True.intro) y
    have J := I1.laid (t' := t') (a := dx) (o := .xd [(fld, v)]) (h' := G) (fun b o z => (gk b (lt z)).trans (k b o z)) s2 ⟨_, n1.at fun o z => (gk dx ne).trans z, rel⟩
    exact ⟨e, _, _, ⟨G, g, dr, t', os⟩, _, .ref C, some dx, rfl, J, fun b o z => by
      by_cases hb : b = e
      · rw [hb, ge] at z; cases z
      · exact (gk b hb).symm.trans z, ge, e1, ⟨rfl, rfl⟩, rfl, rfl, by rw [upd_ne (Ne.symm ne)]; exact I1.hok.fresh s1, rfl, I1.bare, raises_own T.cls.exC T.cls.tyC, q1 dx nd⟩
  · exact q1.elim
/-- C(e), as a value -/
theorem pe_exc (T : ExcT X.prog X.K C f fld slf prm arg scope) (AT : ArgT X.prog X.w arg scope prm okU) (hr : Room 1 X.A) (hg : Gl X x) (hm : X.mg x = some (.ref C)) (he0 : PE X e0 te)
    (hdb : (x == ("__debug__" : Str)) = false := by decide) (he : starEach [e0] X.env = (false, eval e0 X.env) :: starEach [] X.env := by rfl) :
    PE X (.Call (.Name x p) [e0] [] pos) (fun σ H Q => te σ H fun v H1 => (∀ u, RelV v u → okU u) ∧ ∀ a dx, H1 a = none → H1 dx = none → dx ≠ a → Q (.ref a) (upd (upd H1 dx (.xd [(fld, v)])) a (exq a C dx))) := by
  refine ⟨fun pins s σ H Q I h => ?_⟩
  refine wpAny_Call_Name_kw (ld_glob I hg hm ?_ hdb)
  have ha : PA X [e0] (tCons te tNil) := pa_cons he0 pa_nil he
  refine PySem.W.callWith_K (h₀ := X.base) I.ok.mod.kin T.cls.kC (thn (ha.run pos pins s σ H (fun vs H1 => match vs with | [v] => (∀ u, RelV v u → okU u) ∧ ∀ a dx, H1 a = none → H1 dx = none → dx ≠ a → Q (.ref a) (upd (upd H1 dx (.xd [(fld, v)])) a (exq a C dx)) | _ => False) I h) fun us s1 ⟨vs, H1, I1, r1, q1⟩ => ⟨I1.kIn, ?_⟩) he rfl
  dsimp only at q1
  split at q1
  · rename_i v
    obtain ⟨hok, q1⟩ := q1
    obtain ⟨u, rfl, ru⟩ := vals1 r1
    show wpAny _ _ (call (.ref C) [u]) _ _ _
    obtain ⟨mb, hB, hmb⟩ := I1.ok.mod.blt
    obtain ⟨hp, g, dr, tk, os⟩ := s1
    refine wpAny_call (ecall_code T AT (hok u ru) (hr.make C [u] []).depth I1.kIn (I1.ok.mod.glob.keeps I1.bk) (hB.keeps I1.bk) hmb I1.nolimit fun h' t' e dx t1 k s1 s2 ne e1 n1 => ?_)
    obtain ⟨G, g1, g2⟩ := restrict h' fun b => decide (b ≠ e)
    have gk : ∀ b, b ≠ e → G.get? b = h'.get? b := fun b hb => g1 b (decide_eq_true hb)
    have ge : G.get? e = none := g2 e (by simp)
    have nd : H1 dx = none := I1.hok.fresh s2
    have na : H1 e = none := I1.hok.fresh s1
    have lt : ∀ {b : Addr} {o : Obj}, hp.get? b = some o → b ≠ e := fun z => Nat.ne_of_lt (Nat.lt_of_lt_of_le (Heap.lt_size z) s1)
    have rel : ∀ y, L2.RelO (([(fld, v)] : List (Str × V)).lookup y) (if y = fld then some u else none) := fun y => relO_put (fs := []) (mA := fun _ => none) ru (fun g => True.intro) y
    have J := I1.laid (t' := t') (a := dx) (o := .xd [(fld, v)]) (h' := G) (fun b o z => (gk b (lt z)).trans (k b o z)) s2 ⟨_, n1.at fun o z => (gk dx ne).trans z, rel⟩
    have na2 : (upd H1 dx (.xd [(fld, v)])) e = none := by rw [upd_ne (Ne.symm ne)]; exact na
    have J2 := J.laidN (t' := t') (h' := h') (a := e) (o := exq e C dx) (fun b o z => by
      by_cases hb : b = e
      · rw [hb, ge] at z; cases z
      · exact (gk b hb).symm.trans z) ge na2 (exq_ok e1 ⟨rfl, rfl⟩ rfl)
    exact ⟨.ref e, _, J2, rfl, q1 e dx na nd ne⟩
  · exact q1.elim
end
end VL

set_option autoImplicit false
/-! VL65: exceptions as objects: made, isinstance, their field. -/
namespace VL
open PySem PySem.Spec L2
def excOf (h : VH) : R → Option (Addr × List Str × List VV)
  | .val (.ref n) => match h[n]? with
    | some (.exc C fs vs) => some (C, fs, vs)
    | _ => none
  | .new (.exc C fs vs) => some (C, fs, vs)
  | _ => none
section
variable {K : PySem.W.Frag} {m : List Addr} {H : Hp} {h : VH}
theorem excOf_ok {r : R} {x : V} {C : Addr} {fs : List Str} {vs : List VV} (rh : RH K m h H) (rr : RelR K m H r x) (e : excOf h r = some (C, fs, vs)) :
    ∃ (a dx : Addr) (ys : List (Str × V)), x = .ref a ∧ H a = some (exq a C dx) ∧ H dx = some (.xd ys) ∧ ys.map Prod.fst = fs ∧ Rels K m H vs (ys.map Prod.snd) := by
  unfold excOf at e
  split at e
  · split at e
    · rename_i n _ C' fs' vs' hn
      cases e
      obtain ⟨a, rfl, ha⟩ := RelT.ref_inv rr
      obtain ⟨dx, ys, z1, z2, _, z3, z4⟩ := rh.obj n _ a hn ha
      exact ⟨a, dx, ys, rfl, z1, z2, z3, z4⟩
    · cases e
  · cases e
    obtain ⟨a, rfl, _, dx, ys, z1, z2, _, z3, z4⟩ := rr
    exact ⟨a, dx, ys, rfl, z1, z2, z3, z4⟩
  · cases e
end
section
variable {X : Cx} {pins : List (Addr × Obj)} {σ : L2.St} {H : Hp} {s : Shared}
theorem exq_inst {a C dx : Addr} {ys : List (Str × V)} (I : L2.Inv X pins σ H s) (e : H a = some (exq a C dx)) (ed : H dx = some (.xd ys)) : ∃ oe od, PySem.W.InstAt s.heap a oe C (some od) ∧
    ∀ (n : Str) (v : V), ys.lookup n = some v → ∃ u, PySem.W.lookIn n od = some (some u) ∧ L2.RelV v u := by
  obtain ⟨oe, vs, ha, hz, hd⟩ := exq_at I.hok e
  have hx : ObjOk X.prog X.w H s.heap dx (.xd ys) := I.hok dx _ ed
  obtain ⟨mA, hns, hr⟩ := hx
  obtain ⟨od, ho, hl⟩ := lookIn_ns hns
  refine ⟨oe, od, ⟨ha, hz.1, by unfold PySem.W.notCls; rw [hd] <;> rfl, by rw [hz.2]; exact ho⟩, fun n v l => ?_⟩
  obtain ⟨u, hu, ru⟩ := L2.RelO.some_of (v := v) (o := mA n) (by rw [← l]; exact hr n)
  exact ⟨u, by rw [hl, hu], ru⟩
theorem kit_q {a C dx : Addr} {ys : List (Str × V)} (I : L2.Inv X pins σ H s) (T : L2.ExcC X.K C) (e : H a = some (exq a C dx)) (ed : H dx = some (.xd ys)) : ∃ P : Heap → Prop, PySem.W.KitX X.K (.ref a) (.ref C) P ∧ P s.heap := by
  obtain ⟨oe, od, J, _⟩ := exq_inst I e ed
  obtain ⟨cd, hc, _⟩ := PySem.W.any_some T.hd
  exact ⟨_, PySem.W.kitx_exc (by rw [hc]; rfl) T.hg T.hk T.hs T.ha T.hn T.ht T.hm, J⟩
def rIsq (K : PySem.W.Frag) : List V → Hp → VK → Prop := fun xs H Q => ∃ (a C dx : Addr) (ys : List (Str × V)) (c : V) (cv : Value) (b : Bool), xs = [.ref a, c] ∧ H a = some (exq a C dx) ∧ H dx = some (.xd ys) ∧ ClsV c cv ∧ L2.ExcC K C ∧ PySem.W.kitOne K (.ref C) cv = some b ∧ Q (.bl b) H
theorem call_isq : CallR X (.builtin "isinstance") (rIsq X.K) := by
  intro pins s σ H xs us Q I r h
  obtain ⟨a, C, dx, ys, c, cv, b, rfl, ea, ed, k, T, e, q⟩ := h
  obtain ⟨u1, u2, rfl, r1, r2⟩ := vals2 r
  cases (show u1 = Value.ref a from r1)
  have e2 := k.eq r2
  subst e2
  obtain ⟨P, Z, p⟩ := kit_q I T ea ed
  exact PySem.W.kia_one Z I.kIn p e (fun z => nomatch z) fun tk => ⟨.bl b, H, I.tok tk, rfl, q⟩
def rIsqT (K : PySem.W.Frag) : List V → Hp → VK → Prop := fun xs H Q => ∃ (a C dx : Addr) (ys : List (Str × V)) (tp : Addr) (cs : List V) (us : List Value) (b : Bool), xs = [.ref a, .ref tp] ∧ H a = some (exq a C dx) ∧ H dx = some (.xd ys) ∧ H tp = some (.tup cs) ∧ Paired ClsV cs us ∧ L2.ExcC K C ∧ PySem.W.kitAny K (.ref C) us = some b ∧ Q (.bl b) H
theorem call_isqT : CallR X (.builtin "isinstance") (rIsqT X.K) := by
  intro pins s σ H xs us Q I r h
  obtain ⟨a, C, dx, ys, tp, cs, ws, b, rfl, ea, ed, hT, k, T, e, q⟩ := h
  obtain ⟨u1, u2, rfl, r1, r2⟩ := vals2 r
  cases (show u1 = Value.ref a from r1)
  cases (show u2 = Value.ref tp from r2)
  obtain ⟨P, Z, p⟩ := kit_q I T ea ed
  obtain ⟨_, its, rv, o, h1, h2, n, h3⟩ := (show ObjOk X.prog X.w H s.heap tp (.tup cs) from I.hok tp _ hT)
  have e3 := ClsV.all k rv
  subst e3
  obtain ⟨oc, od, dt, sl⟩ := o
  simp only at h2 h3
  subst h2 h3
  exact PySem.W.kia_tup Z I.kIn p h1 e (fun z => nomatch z) fun tk => ⟨.bl b, H, I.tok tk, rfl, q⟩
/-- o.n of an exception -/
theorem pe_xq {e : Expr} {te : TE} {pos : Pos} {n : Str} (he : PE X e te) (hb : attributeBase e n X.env (eval e X.env) = eval e X.env := by rfl) :
    PE X (.Attribute e n pos) (fun σ H Q => te σ H fun x H1 => ∃ (a C dx : Addr) (ys : List (Str × V)) (v : V), x = .ref a ∧ H1 a = some (exq a C dx) ∧ H1 dx = some (.xd ys) ∧ L2.ExcC X.K C ∧ PySem.W.findIn X.K (.ref C) n = some none ∧ ys.lookup n = some v ∧ Q v H1) := by
  refine ⟨fun pins s σ H Q I h => ?_⟩
  refine attr_of hb (thn (he.run pins s σ H _ I h) fun u s1 hh => ?_)
  obtain ⟨x, H1, I1, rx, a, C, dx, ys, v, ex, ea, ed, T, hno, l, q⟩ := hh
  subst ex
  obtain rfl : u = Value.ref a := rx
  obtain ⟨oe, od, J, lk⟩ := exq_inst I1 ea ed
  obtain ⟨u, hu, ru⟩ := lk n v l
  exact HandSPX.exc_get I1.kIn J T.hg T.hk T.hs (PySem.W.findObj_own T.hd hno rfl hu) (handed_of ru) ⟨v, H1, I1.tok _, ru, q⟩
end
section
variable {K : PySem.W.Frag} {X : Cx} {ga : GE} {e0 a : Expr} {x : Str} {p p2 pos : Pos}
/-- C(e) -/
def gExc (C : Addr) (f : Str) (okv : VV → Prop) (ga : GE) : GE := fun ρ h Q => ga ρ h fun r h1 => put r h1 fun v h2 => okv v ∧ Q (.new (.exc C [f] [v])) h2
theorem mexc {C f : Addr} {fld slf prm : Str} {arg : Expr} {scope : Scope} {okU : Value → Prop} {okv : VV → Prop} (T : ExcT X.prog X.K C f fld slf prm arg scope) (AT : ArgT X.prog X.w arg scope prm okU)
    (hok : ∀ (m : List Addr) (H : Hp) (v : VV) (y : V) (u : Value), okv v → RelT X.K m H v y → L2.RelV y u → okU u) (hr : Room 1 X.A) (hm : X.mg x = some (.ref C)) (ha : MX X e0 ga) (hg : Gl X x := by rfl)
    (hdb : (x == ("__debug__" : Str)) = false := by decide) (he : starEach [e0] X.env = (false, eval e0 X.env) :: starEach [] X.env := by rfl) : MX X (.Call (.Name x p) [e0] [] pos) (gExc C fld okv ga) := by
  obtain ⟨t, a1, a2⟩ := ha.ex
  refine ⟨_, pe_exc T AT hr hg hm a1 hdb he, fun m h H ρ σ QV Q rh re hg k => a2 m h H ρ σ _ _ rh re hg fun m1 H1 h1 r y p q => put_ok p q fun m2 h2 v e2 r2 t2 pre q2 => ?_⟩
  refine ⟨fun u ru => hok m2 H1 v y u q2.1 t2 ru, fun a dx na nd ne => ?_⟩
  have na2 : (upd H1 dx (.xd [(fld, y)])) a = none := by rw [upd_ne (Ne.symm ne)]; exact na
  have ev : Ev X.K m2 m2 H1 (upd (upd H1 dx (.xd [(fld, y)])) a (exq a C dx)) := (Ev.laid nd).trans (Ev.laid na2)
  refine k m2 _ h2 (.new (.exc C [fld] [v])) (.ref a) ⟨e2.trans ev, (r2.laid nd).laid na2, ⟨a, rfl, r2.fresh na, dx, [(fld, y)], upd_same, ?_, r2.fresh nd, rfl, .cons (t2.mono ev) .nil⟩, fun o b _ z => ?_⟩ q2.2
  · rw [upd_ne ne, upd_same]
  · cases z
    exact e2.back r2 na
/-- o.n of an exception -/
def gXf (K : PySem.W.Frag) (n : Str) (ga : GE) : GE := fun ρ h Q => ga ρ h fun r h1 => ∃ (C : Addr) (v : VV), excOf h1 r = some (C, [n], [v]) ∧ L2.ExcC K C ∧ PySem.W.findIn K (.ref C) n = some none ∧ Q (.val v) h1
theorem mxf {n : Str} (ha : MX X a ga) (hb : attributeBase a n X.env (eval a X.env) = eval a X.env := by rfl) : MX X (.Attribute a n pos) (gXf X.K n ga) := by
  obtain ⟨t, a1, a2⟩ := ha.ex
  refine ⟨_, pe_xq a1 hb, fun m h H ρ σ QV Q rh re hg k => a2 m h H ρ σ _ _ rh re hg fun m1 H1 h1 r y p q => ?_⟩
  obtain ⟨C, v, e, T, hno, q⟩ := q
  obtain ⟨b, dx, ys, rfl, z1, z2, z3, z4⟩ := excOf_ok p.rh p.rr e
  match ys, z3, z4 with
  | [(f, z)], z3, z4 =>
    obtain rfl : f = n := by simpa using z3
    exact ⟨b, C, dx, [(f, z)], z, rfl, z1, z2, T, hno, by simp [List.lookup], k m1 H1 h1 _ _ ((Pst.val p.rh (z4.at_ 0 v z rfl rfl)).from_ p.ev p.rh) q⟩
/-- isinstance(x, C), C an own class or a class of exceptions -/
def kIsq (K : PySem.W.Frag) (cv : Value) (Q : R → VH → Prop) (r : R) (h : VH) : Prop :=
  (∃ (C : Addr) (fs : List Str) (vs : List VV) (b : Bool), excOf h r = some (C, fs, vs) ∧ L2.ExcC K C ∧ PySem.W.kitOne K (.ref C) cv = some b ∧ Q (.val (.bl b)) h) ∨ ∃ (s : String) (b : Bool), tyR h r = some s ∧ PySem.W.kitOne K (.type s) cv = some b ∧ Q (.val (.bl b)) h
def gIsq (K : PySem.W.Frag) (cv : Value) (ga : GE) : GE := fun ρ h Q => ga ρ h fun r h1 => kIsq K cv Q r h1
theorem misq {c : V} {cv : Value} {eb : Expr} (hm : X.mg "isinstance" = none) (ha : MX X a ga) (hC : PE X eb (tC c)) (kc : ClsV c cv) (hg : Gl X "isinstance" := by rfl)
    (hs : starEach [a, eb] X.env = (false, eval a X.env) :: starEach [eb] X.env := by rfl) (hs1 : starEach [eb] X.env = [(false, eval eb X.env)] := by rfl) (hs2 : (backTo pos (starEach [eb] X.env)).any (·.1) = false := by rfl) :
    MX X (.Call (.Name "isinstance" p) [a, eb] [] pos) (gIsq X.K cv ga) := by
  obtain ⟨t, a1, a2⟩ := ha.ex
  refine ⟨_, pe_callB (L2.CallR.or call_isq call_isi) hg hm (by decide +kernel) (pa_cons a1 (pa_cons hC pa_nil hs1) hs) (by decide) (by decide) hs hs2, fun m h H ρ σ QV Q rh re hg k => a2 m h H ρ σ _ _ rh re hg fun m1 H1 h1 r x p q => ?_⟩
  have fin : ∀ {b : Bool}, QV (.val (.bl b)) h1 → Q (.bl b) H1 := fun q => k m1 H1 h1 _ _ ((Pst.val p.rh .bl).from_ p.ev p.rh) q
  rcases q with ⟨C, fs, vs, b, e, T, hk, q⟩ | ⟨s, b, e, hk, q⟩
  · obtain ⟨o, dx, ys, rfl, z1, z2, z3, z4⟩ := excOf_ok p.rh p.rr e
    exact .inl ⟨o, C, dx, ys, c, cv, b, rfl, z1, z2, kc, T, hk, fin q⟩
  · exact .inr ⟨x, c, .type s, cv, b, rfl, kc, (tyR_ok p.rh p.rr e).1, hk, fin q⟩
end
end VL

set_option autoImplicit false
/-! VL66: what the written part says of the own exceptions. -/
namespace VL
open PySem PySem.W PySem.Calls PyProof.Rows L2
def okAny : VV → Prop := fun _ => True
def okStr : VV → Prop := fun v => ∃ z : Str, v = .str z ∧ z.length ≤ 1000000
/-- an own exception, told to the laws' proofs -/
structure ExcK (prog : Program) (K : Frag) (mg : Str → Option Value) (nm : Str) (C : Addr) (fld : Str) (okv : VV → Prop) : Prop where
  mg : mg nm = some (.ref C)
  isx : L2.ExcC K C
  noF : findIn K (.ref C) fld = some none
  made : ∃ (f : Addr) (slf prm : Str) (arg : Expr) (scope : Scope) (okU : Value → Prop), ExcT prog K C f fld slf prm arg scope ∧ (∀ w, ArgT prog w arg scope prm okU) ∧ ∀ (m : List Addr) (H : Hp) (v : VV) (y : V) (u : Value), okv v → RelT K m H v y → L2.RelV y u → okU u
theorem arg_const {prog : Program} {m : Str} {j : Nat} {p : Pos} {scope : Scope} {prm : Str} (w : World) : ArgT prog w (.Constant (.str m) j p) scope prm (fun _ => True) := fun q L f cd cc A E s mm u Q hn hm hu k =>
  wpAny_Constant_str (k _ _)
def okTx : Value → Prop := fun u => ∃ (x : Str) (t : Tok), u = .str x t ∧ x.length ≤ 1000000
theorem arg_fstr {prog : Program} {m : Str} {j : Nat} {p p2 p3 p4 : Pos} {scope : Scope} {prm : Str} (hm : m.length ≤ 1000) (hk : scope.kind = .function) (hl : scope.names.lookup prm = some .local) (hd : (prm == ("__debug__" : Str)) = false) (w : World) :
    ArgT prog w (.JoinedStr [.Constant (.str m) j p, .FormattedValue (.Name prm p2) (-1) none p3] p4) scope prm okTx := fun q L f cd cc A E s mm u Q hn hmm hu k => by
  obtain ⟨x, t, rfl, hx⟩ := hu
  have s0 : (Str.empty).length = 0 := rfl
  have sl : sizeLine = 16777216 := rfl
  refine JoinedStr_many (joinParts_cons (wpAny_Constant_str ⟨?_, ?_⟩))
  · rw [strLen_append, s0]; omega
  refine joinParts_cons (FormattedValue_plain (wpAny_Name (wpAny_loadName_local (m := mm) ?_ ?_ ?_ hmm (formatField_str (fun t' tk => ⟨?_, joinParts_nil (k _ _) ?_⟩) (by omega))) hd))
  · exact hk
  · exact hl
  · exact hn
  · rw [strLen_append, strLen_append, s0]; omega
  · rw [strLen_append, strLen_append, s0]; omega
theorem anyX_ok {K : Frag} : ∀ (m : List Addr) (H : Hp) (v : VV) (y : V) (u : Value), okAny v → RelT K m H v y → L2.RelV y u → (fun _ : Value => True) u := fun _ _ _ _ _ _ _ _ => trivial
theorem strX_ok {K : Frag} : ∀ (m : List Addr) (H : Hp) (v : VV) (y : V) (u : Value), okStr v → RelT K m H v y → L2.RelV y u → okTx u := fun m H v y u h r q => by
  obtain ⟨z, rfl, l⟩ := h
  cases r.str_inv
  obtain ⟨t, rfl⟩ := (show ∃ t, u = Value.str z t from q)
  exact ⟨z, t, rfl, l⟩
section
variable {X : Cx} {ga : GE} {e0 : Expr} {x : Str} {p pos : Pos}
theorem mexcK {C : Addr} {fld : Str} {okv : VV → Prop} (T : ExcK X.prog X.K X.mg x C fld okv) (hr : Room 1 X.A) (ha : MX X e0 ga) (hg : Gl X x := by rfl)
    (hdb : (x == ("__debug__" : Str)) = false := by decide) (he : starEach [e0] X.env = (false, eval e0 X.env) :: starEach [] X.env := by rfl) : MX X (.Call (.Name x p) [e0] [] pos) (gExc C fld okv ga) := by
  obtain ⟨f, slf, prm, arg, scope, okU, E, A, ok⟩ := T.made
  exact mexc E (A X.w) ok hr T.mg ha hg hdb he
/-- isinstance(a, C) of an own class by its name -/
theorem misqO {C : Addr} {a : Expr} {x2 : Str} {p2 : Pos} (hm : X.mg "isinstance" = none) (hC : X.mg x2 = some (.ref C)) (ha : MX X a ga) (hg : Gl X "isinstance" := by rfl) (hg2 : Gl X x2 := by rfl) (hd2 : (x2 == ("__debug__" : Str)) = false := by decide)
    (hs : starEach [a, .Name x2 p2] X.env = (false, eval a X.env) :: starEach [.Name x2 p2] X.env := by rfl) (hs1 : starEach [.Name x2 p2] X.env = [(false, eval (.Name x2 p2) X.env)] := by rfl) (hs2 : (backTo pos (starEach [.Name x2 p2] X.env)).any (·.1) = false := by rfl) :
    MX X (.Call (.Name "isinstance" p) [a, .Name x2 p2] [] pos) (gIsq X.K (.ref C) ga) :=
  misq hm ha (pe_glob (v := .ref C) hg2 hC rfl hd2) (.own C) hg hs hs1 hs2
theorem misqB {T : String} {a : Expr} {x2 : Str} {p2 : Pos} (hm : X.mg "isinstance" = none) (hmT : X.mg x2 = none) (hv : bootBuiltins x2 = some (.type T)) (ha : MX X a ga) (hg : Gl X "isinstance" := by rfl) (hg2 : Gl X x2 := by rfl) (hn : x2 ≠ "__name__" := by decide) (hd2 : (x2 == ("__debug__" : Str)) = false := by decide)
    (hs : starEach [a, .Name x2 p2] X.env = (false, eval a X.env) :: starEach [.Name x2 p2] X.env := by rfl) (hs1 : starEach [.Name x2 p2] X.env = [(false, eval (.Name x2 p2) X.env)] := by rfl) (hs2 : (backTo pos (starEach [.Name x2 p2] X.env)).any (·.1) = false := by rfl) :
    MX X (.Call (.Name "isinstance" p) [a, .Name x2 p2] [] pos) (gIsq X.K (.type T) ga) :=
  misq hm ha (pe_bltn (v := .ty T) hg2 hmT hv rfl hn hd2) (.ty T) hg hs hs1 hs2
end
/-- the facts, gathered -/
theorem exc_mk {prog : Program} {K : Frag} {h : Heap} {mg : Str → Option Value} {nm : Str} {C fI cda cc S : Addr} {st : Stmt} {qn fld slf prm : Str} {arg : Expr} {okv : VV → Prop} {okU : Value → Prop}
    {nm' q' : Str} {N : Addr} {bs : List Value} {sn : List Str} {sub : List Value} {ab : Bool} {col : Option Bool} {dd : Option Addr} {m0 m1 m2 m3 m5 : Option Value}
    {kV dc pm ct oc ccl cl : Value} {an od cdd cld : Option Addr} {osl ccs csl : Array (Option Value)} {vs : Array Value} {file : Str} {tf : Tok} {ar : Arg} {p0 p1 ap cp p2 p3 p4 p5 p6 : Pos} (X : K.In h) (G : h.Ns mainGlobals mg)
    (aC : nsIn K mainGlobals nm = some (some (.ref C)))
    (xL : K.lookup C = some (excClassObj nm' q' C N bs [.ref S, .type "ValueError", .type "Exception", .type "BaseException", .type "object"] true sn sub ab col dd m0 m1 m2 m3 m5 "ValueError.__new__"))
    (sa : findIn K (.ref C) "__setattr__" = some (some (.builtin "object.__setattr__"))) (eC : subIn K (.ref C) (.type "BaseException") = some true) (tC : typeIn K (.ref C) = some (.type "type")) (kC : keepIn K (.ref C) = true)
    (a1 : findIn K (.ref C) "__init__" = some (some (.ref fI))) (t1 : typeIn K (.ref fI) = some (.type "function"))
    (l1 : K.lookup fI = some ⟨oc, od, .func (ksFn "__init__" qn (defArgs st) (defBody st) (defScope st) .none kV dc pm an (.ref cda) ct cc), osl⟩) (c1 : codeIn K (.ref cda) qn = true)
    (lc : K.lookup cda = some ⟨ccl, cdd, .fields vs, ccs⟩) (hv : vs[2]? = some (.str file tf)) (hfile : ((prog.main.file : Str) == file) = true) (lcc : K.lookup cc = some ⟨cl, cld, .cell (some (.ref C)), csl⟩)
    (sup : ks_superIn K C C "__init__" = some (some (.builtin "ValueError.__init__"))) (sb : mroIn K C (.ref C) = some true) (sbV : subIn K (.ref C) (.type "ValueError") = some true) (any : nsIn K cStatics "thirdparty.any" = some none)
    (noS : nsIn K mainGlobals "super" = some none) (noF : findIn K (.ref C) fld = some none)
    (ga : findIn K (.ref C) "__getattribute__" = some (some (.builtin "BaseException.__getattribute__"))) (gg : findIn K (.ref C) "__getattr__" = some none) (hd : hasDictIn K C = true) (ca : findIn K (.ref C) "__class__" = some (some (.builtin "object.__class__")))
    (gs : specialIn K (.builtin "object.__class__") "__get__" = some (some (.builtin "getset_descriptor.__get__"))) (tk : takesIn K (.builtin "object.__class__") = some true) (ob : mroIn K C (.type "object") = some true)
    (top : (prog.main.scope.names.lookup ("super" : Str)).isSome = false)
    (hb : defBody st = exBody arg fld slf prm p0 p1 ap cp p2 p3 p4 p5 p6) (har : ((defArgs st).posonlyargs ++ (defArgs st).args).head? = some ar) (hslf : ar.arg = slf)
    (hbind : ∀ us : List Value, us.length = 2 → bindArgs (ksFn "__init__" qn (defArgs st) (defBody st) (defScope st) .none kV dc pm an (.ref cda) ct cc) ⟨us, []⟩ = pure ([slf, prm].zip us))
    (hev : ∀ L g, ∃ pl : Sem Bool, eval (.Call (.Attribute (.Call (.Name "super" p0) [] [] p1) "__init__" ap) [arg] [] cp) (ksEnv qn (defScope st) L g (.ref cda) cc) = (do
      let ov ← attributeBase (.Call (.Name "super" p0) [] [] p1) "__init__" (ksEnv qn (defScope st) L g (.ref cda) cc) (eval (.Call (.Name "super" p0) [] [] p1) (ksEnv qn (defScope st) L g (.ref cda) cc))
      standAt ap.atName
      let (f₁, first) ← holding [ov] (getMethod ov "__init__" pl)
      callWith cp f₁ first (backTo cp [(false, eval arg (ksEnv qn (defScope st) L g (.ref cda) cc))]) []))
    (hs1 : ∀ L g, swapsWith (.Call (.Attribute (.Call (.Name "super" p0) [] [] p1) "__init__" ap) [arg] [] cp) none p2.line (ksEnv qn (defScope st) L g (.ref cda) cc) = pure false)
    (hs2 : ∀ L f, swapsWith (.Name prm p5) (some (.Attribute (.Name slf p3) fld p4)) p6.line (ksEnv qn (defScope st) L f (.ref cda) cc) = pure false)
    (sc : (defScope st).names.lookup ("super" : Str) = some .globalImplicit ∧ (defScope st).names.lookup ("__class__" : Str) = some .free ∧ (defScope st).names.lookup slf = some .local ∧ (defScope st).names.lookup prm = some .local ∧ (∀ x ∈ (defScope st).names, x.2 ≠ .cell) ∧
      (defScope st).isCoroutine = false ∧ (defScope st).isGenerator = false ∧ (defScope st).kind = .function ∧ slf ≠ prm ∧ (slf == ("__debug__" : Str)) = false ∧ (prm == ("__debug__" : Str)) = false)
    (AT : ∀ w, ArgT prog w arg (defScope st) prm okU) (ok : ∀ (m : List Addr) (H : Hp) (v : VV) (y : V) (u : Value), okv v → RelT K m H v y → L2.RelV y u → okU u) : ExcK prog K mg nm C fld okv := by
  obtain ⟨s1, s2, s3, s4, s5, s6, s7, s8, s9, s10, s11⟩ := sc
  rw [hb] at l1 hbind
  have cls : L2.OexC K C := ⟨⟨nm', q', N, bs, _, sn, sub, ab, col, dd, m0, m1, m2, m3, m5, xL, by rfl⟩, sa, eC, tC, kC⟩
  exact ⟨mg_of X G aC, ⟨ga, gg, eC, hd, ca, gs, tk, ob⟩, noF, fI, slf, prm, arg, defScope st, okU, {
    cls := cls
    fn := ⟨qn, defArgs st, kV, dc, pm, ct, oc, an, od, osl, cda, cc, ar, p0, p1, ap, cp, p2, p3, p4, p5, p6, l1, c1, har, hslf, hbind, ⟨ccl, cdd, vs, ccs, file, tf, lc, hv, hfile⟩, ⟨cl, cld, csl, lcc⟩, hev, hs1, hs2⟩
    ini := a1, tI := t1, sup := sup, sub := sb, subV := sbV, any := any, noS := noS, noF := noF
    ks := s1, kc := s2, kslf := s3, kprm := s4, ncell := s5, co := s6, gen := s7, kind := s8, ne := s9, dbg1 := s10, dbg2 := s11, top := top }, AT, ok⟩
end VL

set_option autoImplicit false
/-! VL67: raise, calls that may raise (as statements), defs that may raise. -/
namespace VL
open PySem L2
/-- what is wanted of an exception behind a call -/
abbrev XC := Addr → List Str → List VV → VH → Prop
/-- a call that may raise, on values -/
abbrev GCX := List VV → VH → (R → VH → Prop) → XC → Prop
def noX : XC := fun _ _ _ _ => False
/-- that call where it raises nothing -/
def calmS (S : GCX) : GC := fun as h Q => S as h Q noX
def XRel (K : PySem.W.Frag) (m : List Addr) (H : Hp) (XV : XC) (E : XK) : Prop := ∀ m' H' h' C fs vs dx ys, Ev K m m' H H' → RH K m' h' H' → XV C fs vs h' → H' dx = some (.xd ys) → dx ∉ m' → ys.map Prod.fst = fs → Rels K m' H' vs (ys.map Prod.snd) → E (.ref C) (some dx) H'
def spOfX (K : PySem.W.Frag) (n : Nat) (S : GCX) : Sp := fun vs H Q E => ∃ (m : List Addr) (h : VH) (as : List VV) (QV : R → VH → Prop) (XV : XC), RH K m h H ∧ Rels K m H as vs ∧ as.length = n ∧ S as h QV XV ∧
  (∀ m' H' h' r x, Pst K m H m' H' h' r x → QV r h' → Q x H') ∧ XRel K m H XV E
section
variable {X : Cx} {ga : GE} {gr : GA} {e0 a o : Expr} {es : List Expr} {x : Str} {p pos pos' : Pos}
/-- raise C(e) -/
def gRaise (C : Addr) (f : Str) (okv : VV → Prop) (ga : GE) : GS := fun D ρ h => ga ρ h fun r h1 => put r h1 fun v h2 => okv v ∧ D.ex C [f] [v] ρ h2
theorem msraise {C : Addr} {fld : Str} {okv : VV → Prop} (T : ExcK X.prog X.K X.mg x C fld okv) (hr : Room 1 X.A) (ha : MX X e0 ga) (hc : X.calm = true := by rfl) (hg : Gl X x := by rfl)
    (hdb : (x == ("__debug__" : Str)) = false := by decide) (he : starEach [e0] X.env = (false, eval e0 X.env) :: starEach [] X.env := by rfl) : MS X (.Raise (some (.Call (.Name x p) [e0] [] pos)) none pos') (gRaise C fld okv ga) := by
  obtain ⟨f, slf, prm, arg, scope, okU, ET, AT, ok⟩ := T.made
  obtain ⟨t, a1, a2⟩ := ha.ex
  refine ⟨_, ps_raise hc takes_wof (pmk_exc ET (AT X.w) hr hg T.mg a1 hdb he), fun m h H ρ σ D E rh re hg k => a2 m h H ρ σ _ _ rh re hg fun m1 H1 h1 r y p q => put_ok p q fun m2 h2 v e2 r2 t2 pre q2 => ?_⟩
  refine ⟨fun u ru => ok m2 H1 v y u q2.1 t2 ru, fun dx nd => ?_⟩
  have ev := Ev.laid (K := X.K) (m := m2) (o := .xd [(fld, y)]) nd
  exact k.ex m2 _ h2 ρ σ C [fld] [v] dx [(fld, y)] (e2.trans ev) (r2.laid nd) (re.mono (e2.trans ev)) q2.2 upd_same (r2.fresh nd) rfl (.cons (t2.mono ev) .nil)
end
section
variable {X : Cx} {ga : GE} {gr : GA} {e0 a o : Expr} {es : List Expr} {x mn : Str} {p pos pos' apos : Pos} {k n : Nat} {f C : Addr} {fd : FuncData} {ps : List Str} {S : GCX}
theorem pe_methS {pl : Sem Bool} {ta : TE} {t : TA} {sp : Sp} {E : L2.St → XK} (he : PE X o ta) (c : L2.Cls X.K C) (hm : L2.Meth X.K C mn f) (F : FnOk X.prog X.w X.K X.mg X.base (L2.CX X.prog X.w) k f fd ps sp) (hr : Room k X.A) (hb : Binds X.K fd ps []) (hx : ∀ σ, PassesAt (L2.CX X.prog X.w) X σ (E σ)) (ha : PA X (a :: es) t)
    (hst : starEach (a :: es) X.env = (false, eval a X.env) :: starEach es X.env) (hpl : (backTo pos (starEach es X.env)).any (·.1) = false)
    (ht : eval (.Call (.Attribute o mn apos) (a :: es) [] pos) X.env = (do
      let ov ← eval o X.env
      standAt apos.atName
      let (f, first) ← holding [ov] (getMethod ov mn pl)
      callWith pos f first (backTo pos (starEach (a :: es) X.env)) (backToKw pos (keywordEach [] X.env)))) :
    PE X (.Call (.Attribute o mn apos) (a :: es) [] pos) (fun σ H Q => ta σ H fun y H1 => ∃ b dx fs, y = .ref b ∧ H1 b = some (.ins C dx fs) ∧ fs.lookup mn = none ∧ t σ H1 fun vs H2 => sp (y :: vs) H2 Q (E σ)) := by
  refine ⟨fun pins s σ H Q I h => PySem.W.methodCall_KW (pl := pl) (thn (he.run pins s σ H _ I h) fun u s1 hh => ?_) ht⟩
  obtain ⟨y, H1, I1, ry, b, dx, fs, rfl, eb, l, q⟩ := hh
  obtain rfl : u = Value.ref b := ry
  refine getmeth_ok I1 eb c hm l (PySem.W.callWith_K (first := [.ref b]) (h₀ := X.base) I.ok.mod.kin hm.kp (thn (ha.run pos pins s1 σ H1 _ I1 q) fun us s2 hh => ?_) hst hpl)
  obtain ⟨vs, H2, I2, r, q2⟩ := hh
  exact ⟨I2.kIn, run_fnS (us := .ref b :: us) (vs := .ref b :: vs) F hr hb (hx σ) I2 (.cons rfl r) q2⟩
end
/-- an expression that may raise, at a statement's head -/
abbrev GEX := Env → VH → (R → VH → Prop) → XC → Prop
structure MXX (X : Cx) (e : Expr) (g : GEX) : Prop where
  ex : ∃ t, PE X e t ∧ ∀ (m : List Addr) (h : VH) (H : Hp) (ρ : Env) (σ : L2.St) (QV : R → VH → Prop) (XV : XC) (Q : VK), RH X.K m h H → RE X.K m H ρ σ → g ρ h QV XV →
    (∀ m' H' h' r x, Pst X.K m H m' H' h' r x → QV r h' → Q x H') → XRel X.K m H XV (fun cls d G => Wof X cls d σ G) → t σ H Q
section
variable {X : Cx} {ga : GE} {gr : GA} {gx : GEX} {e a o : Expr} {es : List Expr} {x mn : Str} {p pos pos' apos : Pos} {k n : Nat} {f C : Addr} {fd : FuncData} {ps : List Str} {S : GCX} {FS : List Str}
theorem XRel.of {K : PySem.W.Frag} {W : WX} {m : List Addr} {H : Hp} {ρ : VL.Env} {σ : L2.St} {D : VEnds} {E : Ends} (re : RE K m H ρ σ) (k : ERel K W m H D E) : XRel K m H (fun C fs vs h1 => D.ex C fs vs ρ h1) (fun cls d G => W cls d σ G) :=
  fun m' H' h' C fs vs dx ys ev rh q a b c d => k.ex m' H' h' ρ σ C fs vs dx ys ev rh (re.mono ev) q a b c d
theorem XRel.from_ {K : PySem.W.Frag} {m m1 : List Addr} {H H1 : Hp} {XV : XC} {E : XK} (k : XRel K m H XV E) (e : Ev K m m1 H H1) : XRel K m1 H1 XV E := fun m' H' h' C fs vs dx ys ev => k m' H' h' C fs vs dx ys (e.trans ev)
def gDropE (gx : GEX) : GS := fun D ρ h => gx ρ h (fun _ h1 => D.nx ρ h1) (fun C fs vs h1 => D.ex C fs vs ρ h1)
theorem msexprE (ha : MXX X a gx) (hs : swapsWith a none pos.line X.env = pure false := by rfl) : MS X (.Expr a pos) (gDropE gx) := by
  obtain ⟨t, a1, a2⟩ := ha.ex
  exact ⟨_, ps_expr a1 hs, fun m h H ρ σ D E rh re hg k => a2 m h H ρ σ _ _ _ rh re hg (fun m1 H1 h1 r x p q => k.nx m1 H1 h1 ρ σ p.ev p.rh (re.mono p.ev) q) (.of re k)⟩
def gRetE (gx : GEX) : GS := fun D ρ h => gx ρ h D.rt (fun C fs vs h1 => D.ex C fs vs ρ h1)
theorem msretE (ha : MXX X a gx) : MS X (.Return (some a) pos) (gRetE gx) := by
  obtain ⟨t, a1, a2⟩ := ha.ex
  exact ⟨_, ps_ret a1, fun m h H ρ σ D E rh re hg k => a2 m h H ρ σ D.rt _ E.rt rh re hg (fun m1 H1 h1 r x p q => k.rt m1 H1 h1 r x p q) (.of re k)⟩
def gSetE (i : Nat) (gx : GEX) : GS := fun D ρ h => gx ρ h (fun r h1 => put r h1 fun v h2 => D.nx (ρ.set i (some v)) h2) (fun C fs vs h1 => D.ex C fs vs ρ h1)
theorem mssetE (i : Nat) {x : Str} {pos' : Pos} (ha : MXX X a gx) (hN : X.N.Nodup) (hi : X.N[i]? = some x := by rfl) (hx : L2.Loc X.env.scope x := by first | exact Or.inl rfl | exact Or.inr rfl) (hs : swapsWith a (some (.Name x pos')) pos.line X.env = pure false := by rfl)
    (hf : X.fn x = true ∨ X.env.scope.names.lookup x = some .local := by first | exact .inl rfl | exact .inr rfl | assumption) : MS X (.Assign [.Name x pos'] a pos) (gSetE i gx) := by
  obtain ⟨t, a1, a2⟩ := ha.ex
  exact ⟨_, ps_set hN hi hx a1 hs hf, fun m h H ρ σ D E rh re hg k => a2 m h H ρ σ _ _ _ rh re hg (fun m1 H1 h1 r x p q =>
    put_ok p q fun m2 h2 v e2 r2 t2 pre q2 => k.nx m2 H1 h2 _ _ e2 r2 ((re.mono e2).set t2) q2) (.of re k)⟩
def gCallE (n : Nat) (S : GCX) (gr : GA) : GEX := fun ρ h Q XV => gr ρ h fun vs h1 => vs.length = n ∧ S vs h1 Q XV
theorem mcallE (F : FnOk X.prog X.w X.K X.mg X.base (L2.CX X.prog X.w) k f fd ps (spOfX X.K ps.length S)) (hr : Room k X.A) (hm : X.mg x = some (.ref f)) (hk : PySem.W.keepIn X.K (.ref f) = true) (hb : Binds X.K fd ps [])
    (ha : MA X (a :: es) gr) (hl : ps.length = n := by rfl) (hg : Gl X x := by rfl) (hd : (x == ("__debug__" : Str)) = false := by decide) (hs : starEach (a :: es) X.env = (false, eval a X.env) :: starEach es X.env := by rfl) (hs2 : (backTo pos (starEach es X.env)).any (·.1) = false := by rfl) :
    MXX X (.Call (.Name x p) (a :: es) [] pos) (gCallE n S gr) := by
  subst hl
  obtain ⟨t, a1, a2⟩ := ha.ex
  refine ⟨_, pe_callS F hr hg hm hk hb (fun σ => passAt takes_wof σ) a1 hd hs hs2, fun m h H ρ σ QV XV Q rh re hg k kx => a2 m h H ρ σ _ _ rh re hg fun m1 H1 h1 vs xs e1 r1 t1 q => ?_⟩
  exact ⟨m1, h1, vs, QV, XV, r1, t1, q.1, q.2, fun m2 H2 h2 r z p q => k m2 H2 h2 r z (p.from_ e1 r1) q, kx.from_ e1⟩
def gMethE (C : Addr) (FS : List Str) (n : Nat) (S : GCX) (ga : GE) (gr : GA) : GEX := fun ρ h Q XV => ga ρ h fun r h1 => ∃ j vs, r = .val (.ref j) ∧ h1[j]? = some (.ins C FS vs) ∧ gr ρ h1 fun as h2 => as.length = n ∧ S (.ref j :: as) h2 Q XV
theorem mmethE {pl : Sem Bool} (cl : L2.Cls X.K C) (hmm : mn ∉ FS) (hm : L2.Meth X.K C mn f) (F : FnOk X.prog X.w X.K X.mg X.base (L2.CX X.prog X.w) k f fd ps (spOfX X.K ps.length S)) (hr : Room k X.A) (hb : Binds X.K fd ps [])
    (ho : MX X o ga) (hr2 : MA X (a :: es) gr) (hl : ps.length = n + 1 := by rfl) (hst : starEach (a :: es) X.env = (false, eval a X.env) :: starEach es X.env := by rfl) (hpl : (backTo pos (starEach es X.env)).any (·.1) = false := by rfl)
    (ht : eval (.Call (.Attribute o mn apos) (a :: es) [] pos) X.env = (do
      let ov ← eval o X.env
      standAt apos.atName
      let (f, first) ← holding [ov] (getMethod ov mn pl)
      callWith pos f first (backTo pos (starEach (a :: es) X.env)) (backToKw pos (keywordEach [] X.env))) := by rfl) : MXX X (.Call (.Attribute o mn apos) (a :: es) [] pos) (gMethE C FS n S ga gr) := by
  obtain ⟨t, a1, a2⟩ := ho.ex
  obtain ⟨u, b1, b2⟩ := hr2.ex
  refine ⟨_, pe_methS a1 cl hm F hr hb (fun σ => passAt takes_wof σ) b1 hst hpl ht, fun m h H ρ σ QV XV Q rh re hg k kx => a2 m h H ρ σ _ _ rh re hg fun m1 H1 h1 r x p q => ?_⟩
  obtain ⟨j, vs, rfl, hn, q⟩ := q
  obtain ⟨pa, rfl, ea⟩ := RelT.ref_inv p.rr
  obtain ⟨dx, ys, z1, z2, z3⟩ := p.rh.obj j _ pa hn ea
  refine ⟨pa, dx, ys, rfl, z1, no_field (C := C) (dx := dx) hmm z2, b2 m1 h1 H1 ρ σ _ _ p.rh (re.mono p.ev) q fun m2 H2 h2 as xs e2 r2 t2 q2 => ?_⟩
  exact ⟨m2, h2, .ref j :: as, QV, XV, r2, .cons (RelT.ref (e2.pre _ _ ea)) t2, by rw [List.length_cons, q2.1, hl], q2.2, fun m3 H3 h3 r z p3 q3 => k m3 H3 h3 r z (p3.from_ (p.ev.trans e2) r2) q3, kx.from_ (p.ev.trans e2)⟩
/-- such a call where it raises nothing, anywhere -/
theorem xrel_no {K : PySem.W.Frag} {m : List Addr} {H : Hp} {E : XK} : XRel K m H noX E := fun _ _ _ _ _ _ _ _ _ _ q => q.elim
theorem mcall0X (F : FnOk X.prog X.w X.K X.mg X.base (L2.CX X.prog X.w) k f fd ps (spOfX X.K ps.length S)) (hr : Room k X.A) (hm : X.mg x = some (.ref f)) (hk : PySem.W.keepIn X.K (.ref f) = true) (hb : Binds X.K fd ps [])
    (ha : MA X (a :: es) gr) (hl : ps.length = n := by rfl) (hg : Gl X x := by rfl) (hd : (x == ("__debug__" : Str)) = false := by decide) (hs : starEach (a :: es) X.env = (false, eval a X.env) :: starEach es X.env := by rfl) (hs2 : (backTo pos (starEach es X.env)).any (·.1) = false := by rfl) :
    MX X (.Call (.Name x p) (a :: es) [] pos) (gCallD n (calmS S) gr) := by
  subst hl
  obtain ⟨t, a1, a2⟩ := ha.ex
  refine ⟨_, pe_call F hr hg hm hk hb .nil passL a1 hd hs hs2, fun m h H ρ σ QV Q rh re hg k => a2 m h H ρ σ _ _ rh re hg fun m1 H1 h1 vs xs e1 r1 t1 q => ?_⟩
  exact ⟨m1, h1, vs, QV, noX, r1, by simpa using t1, q.1, q.2, fun m2 H2 h2 r z p q => k m2 H2 h2 r z (p.from_ e1 r1) q, xrel_no⟩
theorem mmeth0X {pl : Sem Bool} (cl : L2.Cls X.K C) (hmm : mn ∉ FS) (hm : L2.Meth X.K C mn f) (F : FnOk X.prog X.w X.K X.mg X.base (L2.CX X.prog X.w) k f fd ps (spOfX X.K ps.length S)) (hr : Room k X.A) (hb : Binds X.K fd ps [])
    (ho : MX X o ga) (hr2 : MA X (a :: es) gr) (hl : ps.length = n + 1 := by rfl) (hst : starEach (a :: es) X.env = (false, eval a X.env) :: starEach es X.env := by rfl) (hpl : (backTo pos (starEach es X.env)).any (·.1) = false := by rfl)
    (ht : eval (.Call (.Attribute o mn apos) (a :: es) [] pos) X.env = (do
      let ov ← eval o X.env
      standAt apos.atName
      let (f, first) ← holding [ov] (getMethod ov mn pl)
      callWith pos f first (backTo pos (starEach (a :: es) X.env)) (backToKw pos (keywordEach [] X.env))) := by rfl) : MX X (.Call (.Attribute o mn apos) (a :: es) [] pos) (gMeth C FS n (calmS S) ga gr) := by
  obtain ⟨t, a1, a2⟩ := ho.ex
  obtain ⟨u, b1, b2⟩ := hr2.ex
  refine ⟨_, pe_meth a1 cl hm F hr hb .nil passL b1 hst hpl ht, fun m h H ρ σ QV Q rh re hg k => a2 m h H ρ σ _ _ rh re hg fun m1 H1 h1 r x p q => ?_⟩
  obtain ⟨j, vs, rfl, hn, q⟩ := q
  obtain ⟨pa, rfl, ea⟩ := RelT.ref_inv p.rr
  obtain ⟨dx, ys, z1, z2, z3⟩ := p.rh.obj j _ pa hn ea
  refine ⟨pa, dx, ys, rfl, z1, no_field (C := C) (dx := dx) hmm z2, b2 m1 h1 H1 ρ σ _ _ p.rh (re.mono p.ev) q fun m2 H2 h2 as xs e2 r2 t2 q2 => ?_⟩
  exact ⟨m2, h2, .ref j :: as, QV, noX, r2, by rw [List.append_nil]; exact .cons (RelT.ref (e2.pre _ _ ea)) t2, by rw [List.length_cons, q2.1, hl], q2.2, fun m3 H3 h3 r z p3 q3 => k m3 H3 h3 r z (p3.from_ (p.ev.trans e2) r2) q3, xrel_no⟩
end
section
variable {P : Program} {w : World} {K : PySem.W.Frag} {mg : Str → Option Value} {base : Heap}
theorem def_okX {x qual : Str} {st : Stmt} {f : Addr} {fd : FuncData} {N ps : List Str} {k : Nat} {S : GCX} {g : GS} (F : Fun K x qual st f fd) (sc : FnScope N ps (defScope st))
    (hb : ∀ (cdv : Value) (A : Around) (outer : List PySem.Env) (s : Shared) (H : Hp) (E : XK), Room k (A.deeper (PyProof.Rows.envOfC qual (defScope st) s.heap.objs.size f cdv)) → MB (cxOf (L2.CX P w) P w K mg base N qual (defScope st) f cdv A outer s H E) (defBody st) g)
    (hg : ∀ (as : List VV) (h : VH) (QV : R → VH → Prop) (XV : XC), as.length = ps.length → S as h QV XV → g { nx := fun _ h' => fin h.length QV (.val .non) h', rt := fin h.length QV, ex := fun C fs vs _ h' => XV C fs vs h' } (ini N.length as) h) :
    FnOk P w K mg base (L2.CX P w) (k + 1) f fd ps (spOfX K ps.length S) := by
  refine F.okX sc (fun vs H Q E hsp => ?_) (fun cdv A outer s H vs Q E hr hsp => ?_)
  · obtain ⟨m, h, as, QV, XV, _, r, l, _⟩ := hsp
    rw [← r.len, l]
  · obtain ⟨m, h, as, QV, XV, rh, r, l, hs, k, kx⟩ := hsp
    obtain ⟨t, t1, t2⟩ := (hb cdv A outer s H E hr).ex
    refine ⟨t, t1, t2 m h H (ini N.length as) (L2.start N vs) _ _ rh (RE.ini r) (hg as h QV XV l hs) ⟨fun m1 H1 h1 ρ1 σ1 e1 r1 _ q => ?_, fun m1 H1 h1 r x p q => ?_, fun _ _ _ _ _ _ _ _ q => q.elim, fun _ _ _ _ _ _ _ _ q => q.elim, fun m1 H1 h1 ρ1 σ1 C fs vs dx ys e1 r1 _ q z1 z2 z3 z4 => ?_⟩⟩
    · obtain ⟨r2, h2, f, q2⟩ := q
      have p : Pst K m H m1 H1 h1 (.val .non) .non := ⟨e1, r1, .non, fun _ _ z => nomatch z⟩
      obtain ⟨m2, p2⟩ := fin_ok f rh.len p
      exact k m2 H1 h2 r2 .non p2 q2
    · obtain ⟨r2, h2, f, q2⟩ := q
      obtain ⟨m2, p2⟩ := fin_ok f rh.len p
      exact k m2 H1 h2 r2 x p2 q2
    · exact wof_of (W := fun cls d _ H => E cls d H) (takes_of rfl rfl rfl rfl) (kx m1 H1 h1 C fs vs dx ys e1 r1 q z1 z2 z3 z4)
end
end VL

set_option autoImplicit false
/-! VL68: try: .. except C as n: y = n, the exception stays an object that is known. -/
namespace VL
open PySem PySem.Spec PyProof.Rows L2
section
variable {X : Cx} {pins : List (Addr × Obj)} {σ : L2.St} {H : Hp} {s : Shared}
/-- an object that came within the def is tracked from here on -/
theorem inv_track {a : Addr} {o : HO} (I : L2.Inv X pins σ H s) (na : H a = none) (n0 : X.s_0.heap.get? a = none) (new : ObjOk X.prog X.w (upd H a o) s.heap a o) (nL : a ≠ X.env.locals)
    (nc : ∀ x c, X.env.cells.lookup x = some c → c ≠ a) (np : ∀ p ∈ X.pn ++ pins, p.1 ≠ a) : L2.Inv X pins σ (upd H a o) s :=
  ⟨I.ok, I.os, I.bare, ⟨I.base.keep, I.base.slot, fun b u e n hx => by
      rw [upd_ne (fun z => by rw [z, n0] at e; cases e)]
      exact I.base.free b u e n hx, I.base.there, fun b xs e => by
      have := I.base.tups b xs e
      rw [upd_ne (ne_of_none this na)]; exact this, fun b u xs e => by
      have := I.base.frzs b u xs e
      rw [upd_ne (ne_of_none this na)]; exact this, fun b ps e => by
      obtain ⟨q, this⟩ := I.base.tbls b ps e
      exact ⟨q, by rw [upd_ne (ne_of_none this na)]; exact this⟩⟩,
    I.loc, I.cell, by rw [upd_ne (Ne.symm nL)]; exact I.free, fun x c e => by rw [upd_ne (nc x c e)]; exact I.freeC x c e,
    fun p hp => let ⟨e, n, ne, nf, d⟩ := I.pin p hp; ⟨e, by rw [upd_ne (np p hp)]; exact n, ne, nf, d⟩, I.hok.laidN (fun _ _ z => z) na new, I.len⟩
end
/-- what the clause wishes of an exception of the body -/
def wKeep (K : PySem.W.Frag) (c : Value) (i j : Nat) (Wout : WX) (D : Ends) : WX := fun cls d σ H =>
  ∃ b, PySem.W.exmOne K cls c = some b ∧ (b = true → ∃ C dx, cls = .ref C ∧ d = some dx ∧ ∀ a, H a = none → D.nx (((σ.set i (some (.ref a))).set j (some (.ref a))).set i none) (upd H a (exq a C dx))) ∧ (b = false → Wout cls d σ H)
section
variable {X : Cx} {x n y : Str} {c : Value} {i j : Nat} {body : List Stmt} {np pos pos' p1 p2 p3 : Pos} {tb : WX → TS} {Wout : WX}
theorem ps_try_keep (hs : X.stack = X.env :: X.outer) (hf : X.env.frame = some X.env.locals) (hex : X.ex = []) (hN : X.N.Nodup) (hi : X.N[i]? = some n) (hj : X.N[j]? = some y) (hln : X.env.kindOf n = some .local) (hly : X.env.kindOf y = some .local) (hc : Names X x c) (tk : Takes X Wout)
    (hsw : swapsWith (.Name n p2) (some (.Name y p1)) p3.line X.env = pure false) (hdn : (n == ("__debug__" : Str)) = false) (hcn : (n == ("__classdict__" : Str)) = false)
    (hb : ∀ (W : WX) (pn : List (Addr × Obj)) (xe : Value → Shared → Prop), Takes (X.tr pn xe) W → PassesOwn (model X.prog X.w) X.A X.env xe → PSs (X.tr pn xe) body (tb W)) :
    PS X (.Try body [.ExceptHandler (some (.Name x np)) (some n) [.Assign [.Name y p1] (.Name n p2) p3] pos'] [] [] pos) (fun D σ H => tb (wKeep X.K c i j Wout D) D σ H) := by
  refine ⟨fun pins s σ H D I h => ?_⟩
  have ok := I.ok
  have hfr : X.A.frames = some (X.env :: X.outer) := by rw [ok.frames, hs]
  have hloc : L2.Loc X.env.scope n := .inl hln
  refine wpAny_Try_except (wpAny_mono ((hb (wKeep X.K c i j Wout D) (X.pn ++ pins) (fun e s₁ => wpAny (model X.prog X.w) X.A (noteFrame e X.env) (fun _ s₂ => wpAny (model X.prog X.w) X.A (setFlight e none) (fun _ s₃ =>
    wpAny (model X.prog X.w) X.A (handleBy e X.env [.ExceptHandler (some (.Name x np)) (some n) [.Assign [.Name y p1] (.Name n p2) p3] pos']) (SP X pins D) X.xe s₃) X.xe s₂) X.xe s₁) (fun u s' xx => ?_) PassesOwn.looking).run [] s σ H D (I.toTry _) h) (fun f s1 hsp => ?_) (fun e s1 he => he))
  · obtain ⟨a, B, sI, pins', σ', H', cls, d, rfl, J', nb, up, sky, na, os, ag, b, hb1, hyes, hno⟩ := xx
    have J : L2.Inv X pins σ' H' sI := J'.ofTry ok
    have sky' : Sky B (X.env :: X.outer) a (Zc cls d) X.env.locals s'.heap := by rw [← hs]; exact sky
    show wpAny (model X.prog X.w) X.A (noteFrame (.ref a) X.env) _ _ _
    refine Sky.land Zc.steady hfr hf sky' fun h3 fl3 up3 => ?_
    have J3 : L2.Inv X pins σ' H' { s' with heap := h3 } := J.landed nb fl3.1 (up.trans up3) os ag
    obtain ⟨oe3, vs3, he3, hz3, hd3⟩ := fl3.there
    have nfr : a ∉ frs (X.env :: X.outer) := fun hm => by
      obtain ⟨_, o', e', hnf⟩ := fl3.2.2.1.mem hm
      rw [he3] at e'; cases e'
      exact hnf _ hd3
    have nL : a ≠ X.env.locals := fun z => nfr (List.mem_filterMap.mpr ⟨X.env, List.mem_cons_self, by rw [hf, z]⟩)
    have nF : a ∉ X.fs := fun hm => by
      obtain ⟨e, he, q⟩ := List.mem_filterMap.mp hm
      exact nfr (List.mem_filterMap.mpr ⟨e, List.mem_cons_of_mem _ he, q⟩)
    have aI : sI.heap.get? a = none := by
      cases q : sI.heap.get? a with
      | none => rfl
      | some o =>
        have z := nb a o q (by rw [hs]; exact nfr)
        rw [fl3.2.1] at z; cases z
    have a0 : X.s_0.heap.get? a = none := by
      cases q : X.s_0.heap.get? a with
      | none => rfl
      | some o =>
        obtain ⟨o', z⟩ := J.base.there a o q (by rw [hex]; simp)
        rw [aI] at z; cases z
    have nc : ∀ x c, X.env.cells.lookup x = some c → c ≠ a := fun x c e z => by
      obtain ⟨v, hv⟩ := J.cell x c e
      obtain ⟨w1, w2, _⟩ := hv
      rw [z, aI] at w2; cases w2
    have npn : ∀ p ∈ X.pn ++ pins, p.1 ≠ a := fun p hp z => by
      have := (J.pin p hp).1
      rw [z, aI] at this; cases this
    have S3 := J3.suite he3 hd3 na nL nF
    refine wpAny_handleBy_cons (codeAny_handlers_test ?_) (by intro q; cases q)
    have LT : PySem.W.Looks (model X.prog X.w) h3 (typeOf (.ref a)) cls := fun A Q E s k q => wpAny_typeOf_ref (k _ _ he3) (by rw [hz3.1]; exact q)
    have LM := PySem.W.exm_one (M := model X.prog X.w) (J3.kIn) LT hb1
    have test : ∀ {Q : Value → Shared → Prop} {E : Value → Shared → Prop}, Q c { s' with heap := h3 } → wpAny (model X.prog X.w) (X.A.mark (some (.ref a))) (eval (.Name x np) X.env) Q E { s' with heap := h3 } := fun {Q E} q => by
      obtain ⟨hg, hdbg, hm | ⟨hm, hv, hnn⟩⟩ := hc
      · exact ld_glob (X := X.suite a ((a, oe3) :: (X.pn ++ pins))) S3 hg hm q hdbg
      · exact ld_blt (X := X.suite a ((a, oe3) :: (X.pn ++ pins))) S3 hg hm hv q hnn hdbg
    refine test (LM.here ?_)
    cases b with
    | true =>
      obtain ⟨C, dx, rfl, rfl, hnx⟩ := hyes rfl
      refine codeAny_handlers_suite_as (HandSPX.lands_againZ fl3 fun h4 fl4 up4 => ?_)
      have J4 : L2.Inv X pins σ' H' { s' with heap := h4 } := J.landed nb fl4.1 ((up.trans up3).trans up4) os ag
      obtain ⟨oe4, vs4, he4, hz4, hd4⟩ := fl4.there
      have S4 := J4.suite he4 hd4 na nL nF
      refine store_ok (X := X.suite a ((a, oe4) :: (X.pn ++ pins))) (v := .ref a) S4 hN hi hloc rfl (fun s5 S5 => ?_) (.inr hln)
      have il : i < σ'.length := by rw [J4.len]; exact (List.getElem?_eq_some_iff.mp hi).1
      have asg : PSs (X.suite a ((a, oe4) :: (X.pn ++ pins))) [.Assign [.Name y p1] (.Name n p2) p3] (tAsg (tVar i) (L2.gName j)) := pss_one (ps_set hN hj (.inl hly) (pe_var hi (.inl hln) hdn hcn) hsw (.inr hly))
      refine wpAny_mono (asg.run [] s5 _ H' { nx := fun σ6 H6 => σ6 = (σ'.set i (some (.ref a))).set j (some (.ref a)) ∧ H6 = H', rt := fun _ _ => False, bk := fun _ _ => False, ct := fun _ _ => False } S5 ⟨.ref a, by rw [List.getElem?_set_self il], rfl, rfl⟩) (fun f s6 hsp => ?_) (fun _ _ z => False.elim z)
      cases f with
      | next =>
        obtain ⟨σ6, H6, S6, rfl, rfl⟩ := hsp
        refine gone_ok (X := X.suite a ((a, oe4) :: (X.pn ++ pins))) S6 hN hi hln fun s7 S7 => ?_
        have e7 := (S7.pin (a, oe4) (List.mem_append_left _ List.mem_cons_self)).1
        exact ⟨_, _, inv_track (S7.unsuite ok) na a0 (exq_ok e7 hz4 hd4) nL nc npn, hnx a na⟩
      | brk =>
        obtain ⟨_, _, _, q6⟩ := hsp
        exact q6.elim
      | cont =>
        obtain ⟨_, _, _, q6⟩ := hsp
        exact q6.elim
      | ret u =>
        obtain ⟨_, _, _, _, _, q6⟩ := hsp
        exact q6.elim
    | false =>
      show wpAny _ X.A (handleBy (.ref a) X.env []) _ _ _
      refine wpAny_handleBy_nil ?_
      obtain ⟨k1, k2, k3, oe, vs, T, oT, ts', he, hz, hd, h1, hr⟩ := id fl3
      unfold PySem.passOn
      refine wpAny_bind (wpAny_field he hd h1 ?_)
      rw [if_neg (show ¬ ((Value.ref T == Value.none) = true) from by simp)]
      have fin : wpAny (model X.prog X.w) X.A (setFlight (.ref a) X.env.frame) (fun _ s4 => wpAny (model X.prog X.w) X.A (throw (.ref a) : Sem Flow) (SP X pins D) X.xe s4) X.xe { s' with heap := h3 } := by
        rw [hf]
        refine HandSPX.setFlight_upZ fl3 fun h4 hh4 up4 => wpAny_throw (tk _ _ ?_)
        exact ⟨a, B, sI, pins, σ', H', cls, d, rfl, J, nb, (up.trans up3).trans up4, .inr (.inr (by rw [hs]; exact hh4)), na, os, ag, hno rfl⟩
      first
        | exact wpAny_bind (wpAny_pure (wpAny_bind fin))
        | exact wpAny_bind fin
  · cases f with
    | next =>
      obtain ⟨σ', H', J', q⟩ := hsp
      exact wpAny_execs_nil ⟨σ', H', J'.ofTry ok, q⟩
    | brk =>
      obtain ⟨σ', H', J', q⟩ := hsp
      exact ⟨σ', H', J'.ofTry ok, q⟩
    | cont =>
      obtain ⟨σ', H', J', q⟩ := hsp
      exact ⟨σ', H', J'.ofTry ok, q⟩
    | ret u =>
      obtain ⟨v, σ', H', J', r, q⟩ := hsp
      exact ⟨v, σ', H', J'.ofTry ok, r, q⟩
end
/-- try: body; except C as n: y = n -/
def gTryK (K : PySem.W.Frag) (cv : Value) (i j : Nat) (gb : GS) : GS := fun D ρ h => gb { D with ex := fun C fs vs ρ1 h1 => ∃ b, PySem.W.exmOne K (.ref C) cv = some b ∧
  (b = true → D.nx (((ρ1.set i (some (.ref h1.length))).set j (some (.ref h1.length))).set i none) (h1 ++ [.exc C fs vs])) ∧ (b = false → D.ex C fs vs ρ1 h1) } ρ h
/-- the body's meaning, whatever may leave it -/
def tbK (K : PySem.W.Frag) (gb : GS) (W : WX) : TS := fun E σ H => ∃ (m : List Addr) (h : VH) (ρ : VL.Env) (D : VEnds), RH K m h H ∧ RE K m H ρ σ ∧ gb D ρ h ∧ ERel K W m H D E
theorem pss_tb {X : Cx} {body : List Stmt} {gb : GS} {W : WX} (hb : MB X body gb) (tk : Takes X W) : PSs X body (tbK X.K gb W) := by
  obtain ⟨t, b1, b2⟩ := hb.ex
  refine ⟨fun pins s σ H E I q => ?_⟩
  obtain ⟨m, h, ρ, D, rh, re, hg, k⟩ := q
  exact b1.run pins s σ H E I (b2 m h H ρ σ D E rh re hg ⟨k.nx, k.rt, k.bk, k.ct, fun m' H' h' ρ1 σ1 C fs vs dx ys ev r1 re1 q z1 z2 z3 z4 => wof_of tk (k.ex m' H' h' ρ1 σ1 C fs vs dx ys ev r1 re1 q z1 z2 z3 z4)⟩)
theorem mstryK {X : Cx} {x n y : Str} {cv : Value} {body : List Stmt} {np pos pos' p1 p2 p3 : Pos} {gb : GS} (i j : Nat) (hc : Names X x cv) (hN : X.N.Nodup)
    (hb : ∀ (pn : List (Addr × Obj)) (xe : Value → Shared → Prop), PassesOwn (model X.prog X.w) X.A X.env xe → MB (X.tr pn xe) body gb) (hi : X.N[i]? = some n := by rfl) (hj : X.N[j]? = some y := by rfl) (hs : X.stack = X.env :: X.outer := by rfl) (hf : X.env.frame = some X.env.locals := by rfl) (hex : X.ex = [] := by rfl)
    (hln : X.env.kindOf n = some .local := by rfl) (hly : X.env.kindOf y = some .local := by rfl) (hsw : swapsWith (.Name n p2) (some (.Name y p1)) p3.line X.env = pure false := by rfl) (hdn : (n == ("__debug__" : Str)) = false := by decide) (hcn : (n == ("__classdict__" : Str)) = false := by decide) :
    MS X (.Try body [.ExceptHandler (some (.Name x np)) (some n) [.Assign [.Name y p1] (.Name n p2) p3] pos'] [] [] pos) (gTryK X.K cv i j gb) := by
  refine ⟨_, ps_try_keep (tb := tbK X.K gb) hs hf hex hN hi hj hln hly hc takes_wof hsw hdn hcn (fun W pn xe tk hp => pss_tb (hb pn xe hp) tk), fun m h H ρ σ D E rh re hg k => ?_⟩
  refine ⟨m, h, ρ, _, rh, re, hg, k.nx, k.rt, k.bk, k.ct, fun m' H' h' ρ1 σ1 C fs vs dx ys ev r1 re1 q z1 z2 z3 z4 => ?_⟩
  obtain ⟨b, hb1, hy, hn⟩ := q
  refine ⟨b, hb1, fun e => ⟨C, dx, rfl, rfl, fun a na => ?_⟩, fun e => k.ex m' H' h' ρ1 σ1 C fs vs dx ys ev r1 re1 (hn e) z1 z2 z3 z4⟩
  have el := Ev.laid (K := X.K) (m := m') (o := exq a C dx) na
  have p : Pst X.K m' H' m' (upd H' a (exq a C dx)) h' (.new (.exc C fs vs)) (.ref a) := ⟨el, r1.laid na, ⟨a, rfl, r1.fresh na, dx, ys, upd_same, by rw [upd_ne (ne_of_none z1 na)]; exact z1, z2, z3, z4.mono el⟩, fun o b _ z => by
    cases z
    exact na⟩
  exact put_ok (QV := fun v h2 => D.nx (((ρ1.set i (some v)).set j (some v)).set i none) h2) p (hy e) fun m2 h2 v e2 r2 t2 pre q2 => k.nx m2 _ h2 _ _ (ev.trans e2) r2 ((((re1.mono e2).set t2).set t2).unset) q2
end VL

set_option autoImplicit false
/-! VL69: isinstance(x, (C1, C2, ..)); steps for exceptions. -/
namespace VL
open PySem PySem.Spec L2
structure PAC (X : Cx) (es : List Expr) (cs : List V) (us : List Value) : Prop where
  pa : PA X es (fun _ H Q => Q cs H)
  k : Paired ClsV cs us
section
variable {X : Cx} {ga : GE} {a : Expr} {es : List Expr} {x : Str} {p pos tp : Pos} {cs : List V} {us : List Value} {kk : Nat}
theorem pac_nil : PAC X [] [] [] := ⟨pa_nil, .nil⟩
theorem pac_own {C : Addr} (hm : X.mg x = some (.ref C)) (r : PAC X es cs us) (hg : Gl X x := by rfl) (hd : (x == ("__debug__" : Str)) = false := by decide) (hs : starEach (.Name x p :: es) X.env = (false, eval (.Name x p) X.env) :: starEach es X.env := by rfl) : PAC X (.Name x p :: es) (.ref C :: cs) (.ref C :: us) :=
  ⟨pa_cons (te := tC (.ref C)) (pe_glob (v := .ref C) hg hm rfl hd) r.pa hs, .cons (.own C) r.k⟩
def kIsqT (K : PySem.W.Frag) (us : List Value) (Q : R → VH → Prop) (r : R) (h : VH) : Prop :=
  (∃ (C : Addr) (fs : List Str) (vs : List VV) (b : Bool), excOf h r = some (C, fs, vs) ∧ L2.ExcC K C ∧ PySem.W.kitAny K (.ref C) us = some b ∧ Q (.val (.bl b)) h) ∨ ∃ (s : String) (b : Bool), tyR h r = some s ∧ PySem.W.kitAny K (.type s) us = some b ∧ Q (.val (.bl b)) h
def gIsqT (K : PySem.W.Frag) (us : List Value) (ga : GE) : GE := fun ρ h Q => ga ρ h fun r h1 => kIsqT K us Q r h1
theorem misqT (hm : X.mg "isinstance" = none) (ha : MX X a ga) (r : PAC X es cs us) (hl : cs.length ≤ 100 := by simp) (hg : Gl X "isinstance" := by rfl)
    (hs : starEach [a, .Tuple es kk tp] X.env = (false, eval a X.env) :: starEach [.Tuple es kk tp] X.env := by rfl) (hs1 : starEach [.Tuple es kk tp] X.env = [(false, eval (.Tuple es kk tp) X.env)] := by rfl) (hs2 : (backTo pos (starEach [.Tuple es kk tp] X.env)).any (·.1) = false := by rfl) :
    MX X (.Call (.Name "isinstance" p) [a, .Tuple es kk tp] [] pos) (gIsqT X.K us ga) := by
  obtain ⟨t, a1, a2⟩ := ha.ex
  refine ⟨_, pe_callB (L2.CallR.or call_isqT call_isiT) hg hm (by decide +kernel) (pa_cons a1 (pa_cons (pe_tup r.pa) pa_nil hs1) hs) (by decide) (by decide) hs hs2, fun m h H ρ σ QV Q rh re hg k => a2 m h H ρ σ _ _ rh re hg fun m1 H1 h1 rx y p q => ?_⟩
  refine ⟨Nat.le_trans hl (by decide), fun tp na => ?_⟩
  have el := Ev.laid (K := X.K) (m := m1) (o := .tup cs) na
  have fin : ∀ {b : Bool}, QV (.val (.bl b)) h1 → Q (.bl b) (upd H1 tp (.tup cs)) := fun q => k m1 _ h1 _ _ ((Pst.val (p.rh.laid na) .bl).from_ (p.ev.trans el) (p.rh.laid na)) q
  rcases q with ⟨C, fs, vs, b, e, T, hk, q⟩ | ⟨s, b, e, hk, q⟩
  · obtain ⟨o, dx, ys, rfl, z1, z2, z3, z4⟩ := excOf_ok p.rh p.rr e
    exact .inl ⟨o, C, dx, ys, tp, cs, us, b, rfl, by rw [upd_ne (ne_of_none z1 na)]; exact z1, by rw [upd_ne (ne_of_none z2 na)]; exact z2, upd_same, r.k, T, hk, fin q⟩
  · exact .inr ⟨y, tp, cs, .type s, us, b, rfl, upd_same, r.k, (tyR_ok (p.rh.laid na) (p.rr.mono el) e).1, hk, fin q⟩
end
/-! ### steps -/
section
variable {K : PySem.W.Frag} {ρ : VL.Env} {h : VH} {Q : R → VH → Prop} {xv : XC} {ga : GE} {gr : GA} {gx : GEX} {gs g2 : GS} {N bk ct : VL.Env → VH → Prop} {rt : R → VH → Prop} {ex : XV} {cv : Value} {us : List Value} {i j n : Nat}
theorem t_isq (q : ga ρ h fun r h1 => kIsq K cv Q r h1) : gIsq K cv ga ρ h Q := q
theorem t_isqT (q : ga ρ h fun r h1 => kIsqT K us Q r h1) : gIsqT K us ga ρ h Q := q
theorem t_kisqE {r : R} {C : Addr} {fs : List Str} {vs : List VV} {b : Bool} (e : excOf h r = some (C, fs, vs)) (x : L2.ExcC K C) (k : PySem.W.kitOne K (.ref C) cv = some b) (q : Q (.val (.bl b)) h) : kIsq K cv Q r h := .inl ⟨C, fs, vs, b, e, x, k, q⟩
theorem t_kisqN {s : String} {r : R} {b : Bool} (e : tyR h r = some s) (k : PySem.W.kitOne K (.type s) cv = some b) (q : Q (.val (.bl b)) h) : kIsq K cv Q r h := .inr ⟨s, b, e, k, q⟩
theorem t_kisqTE {r : R} {C : Addr} {fs : List Str} {vs : List VV} {b : Bool} (e : excOf h r = some (C, fs, vs)) (x : L2.ExcC K C) (k : PySem.W.kitAny K (.ref C) us = some b) (q : Q (.val (.bl b)) h) : kIsqT K us Q r h := .inl ⟨C, fs, vs, b, e, x, k, q⟩
theorem t_kisqTN {s : String} {r : R} {b : Bool} (e : tyR h r = some s) (k : PySem.W.kitAny K (.type s) us = some b) (q : Q (.val (.bl b)) h) : kIsqT K us Q r h := .inr ⟨s, b, e, k, q⟩
theorem t_exc {C : Addr} {f : Str} {okv : VV → Prop} (q : ga ρ h fun r h1 => put r h1 fun v h2 => okv v ∧ Q (.new (.exc C [f] [v])) h2) : gExc C f okv ga ρ h Q := q
theorem t_xf {nm : Str} (q : ga ρ h fun r h1 => ∃ (C : Addr) (v : VV), excOf h1 r = some (C, [nm], [v]) ∧ L2.ExcC K C ∧ PySem.W.findIn K (.ref C) nm = some none ∧ Q (.val v) h1) : gXf K nm ga ρ h Q := q
theorem t_raise {C : Addr} {f : Str} {okv : VV → Prop} (q : ga ρ h fun r h1 => put r h1 fun v h2 => okv v ∧ ex C [f] [v] ρ h2) : gRaise C f okv ga ⟨N, rt, bk, ct, ex⟩ ρ h := q
theorem t_dropE (q : gx ρ h (fun _ h1 => N ρ h1) (fun C fs vs h1 => ex C fs vs ρ h1)) : gDropE gx ⟨N, rt, bk, ct, ex⟩ ρ h := q
theorem t_retE (q : gx ρ h rt (fun C fs vs h1 => ex C fs vs ρ h1)) : gRetE gx ⟨N, rt, bk, ct, ex⟩ ρ h := q
theorem t_setE (q : gx ρ h (fun r h1 => put r h1 fun v h2 => N (ρ.set i (some v)) h2) (fun C fs vs h1 => ex C fs vs ρ h1)) : gSetE i gx ⟨N, rt, bk, ct, ex⟩ ρ h := q
theorem t_callE {S : GCX} (q : gr ρ h fun vs h1 => vs.length = n ∧ S vs h1 Q xv) : gCallE n S gr ρ h Q xv := q
theorem t_methE {C : Addr} {FS : List Str} {S : GCX} (q : ga ρ h fun r h1 => ∃ j vs, r = .val (.ref j) ∧ h1[j]? = some (.ins C FS vs) ∧ gr ρ h1 fun as h2 => as.length = n ∧ S (.ref j :: as) h2 Q xv) : gMethE C FS n S ga gr ρ h Q xv := q
theorem t_tryK (q : gs ⟨N, rt, bk, ct, fun C fs vs ρ1 h1 => ∃ b, PySem.W.exmOne K (.ref C) cv = some b ∧ (b = true → N (((ρ1.set i (some (.ref h1.length))).set j (some (.ref h1.length))).set i none) (h1 ++ [.exc C fs vs])) ∧ (b = false → ex C fs vs ρ1 h1)⟩ ρ h) : gTryK K cv i j gs ⟨N, rt, bk, ct, ex⟩ ρ h := q
end
end VL

set_option autoImplicit false
/-! VL70: steps: what may raise, at the head of a suite; isinstance with a tuple of classes. -/
namespace VL
open PySem PySem.Spec L2
section
variable {K : PySem.W.Frag} {ρ : VL.Env} {h : VH} {ga : GE} {gx : GEX} {gs g2 : GS} {N bk ct : VL.Env → VH → Prop} {rt : R → VH → Prop} {ex : XV} {cv t c : Value} {us : List Value} {i j n : Nat}
theorem t_seqDE (q : gDropE gx ⟨fun ρ' h' => g2 ⟨N, rt, bk, ct, ex⟩ ρ' h', rt, bk, ct, ex⟩ ρ h) : gSeq (gDropE gx) g2 ⟨N, rt, bk, ct, ex⟩ ρ h := ⟨_, q, fun _ _ z => z⟩
theorem t_seqSE (q : gSetE i gx ⟨fun ρ' h' => g2 ⟨N, rt, bk, ct, ex⟩ ρ' h', rt, bk, ct, ex⟩ ρ h) : gSeq (gSetE i gx) g2 ⟨N, rt, bk, ct, ex⟩ ρ h := ⟨_, q, fun _ _ z => z⟩
theorem t_seqTK (q : gTryK K cv i j gs ⟨fun ρ' h' => g2 ⟨N, rt, bk, ct, ex⟩ ρ' h', rt, bk, ct, ex⟩ ρ h) : gSeq (gTryK K cv i j gs) g2 ⟨N, rt, bk, ct, ex⟩ ρ h := ⟨_, q, fun _ _ z => z⟩
theorem any_nil : PySem.W.kitAny K t [] = some false := rfl
theorem any_no (a : PySem.W.kitOne K t c = some false) (b : PySem.W.kitAny K t us = some false) : PySem.W.kitAny K t (c :: us) = some false := by
  unfold PySem.W.kitAny; rw [a]; exact b
theorem any_yes (a : PySem.W.kitOne K t c = some true) : PySem.W.kitAny K t (c :: us) = some true := by
  unfold PySem.W.kitAny; rw [a]
end
end VL

set_option autoImplicit false
/-! VL71: xs[a:c] = ys (another list). -/
namespace VL
open PySem PySem.Spec PyProof PyProof.Rows L2
section
variable {X : Cx} {o el eh : Expr} {to tl th : TE} {p2 pos : Pos}
def gSls (to tl th : TE) : TG := fun v σ H Q => to σ H fun x H1 => tl σ H1 fun i H2 => th σ H2 fun j H3 => ∃ (l b : Addr) (xs ys : List V) (a c : Int), x = .ref l ∧ v = .ref b ∧ i = .int a ∧ j = .int c ∧ H3 l = some (.lst xs) ∧ H3 b = some (.lst ys) ∧ l ≠ b ∧ 0 ≤ a ∧ a ≤ c ∧ c ≤ xs.length ∧
  xs.length + ys.length ≤ sizeLine ∧ Q σ (upd H3 l (.lst (xs.take a.toNat ++ ys ++ xs.drop c.toNat)))
theorem pg_sls (ho : PE X o to) (hl : PE X el tl) (hh : PE X eh th)
    (ha : ∀ v, assign (.Subscript o (.Slice (some el) (some eh) none p2) pos) X.env v = (do
      let ov ← holding [v] (eval o X.env)
      let iv ← holding [v, ov] (eval (.Slice (some el) (some eh) none p2) X.env)
      standAt pos
      holding [v, ov, iv] (setItem ov iv v)
      release [iv, v, ov] []) := by intro _; rfl) : PG X (.Subscript o (.Slice (some el) (some eh) none p2) pos) (gSls to tl th) := by
  refine ⟨fun pins s σ H v u Q I r h => ?_⟩
  rw [ha]
  refine wpAny_bind (wpAny_holding (thn (ho.run pins s σ H _ I h) fun ov s1 ⟨x, H1, I1, r1, q1⟩ => ?_))
  refine wpAny_bind (wpAny_holding (wpAny_Slice ?_))
  rw [evalPart_some]
  refine thn (hl.run pins s1 σ H1 _ I1 q1) fun vl s2 ⟨i, H2, I2, r2, q2⟩ => ?_
  rw [evalPart_some]
  refine thn (hh.run pins s2 σ H2 _ I2 q2) fun vu s3 ⟨j, H3, I3, r3, q3⟩ => ?_
  rw [evalPart_none]
  refine wpAny_pure ?_
  obtain ⟨l, b, xs, ys, a, c, rfl, rfl, rfl, rfl, hx, hy, hne, h0, hac, hc, hz, q⟩ := q3
  have I4 : Inv X pins σ H3 { s3 with heap := s3.heap.push { cls := .type "slice", data := .fields #[vl, vu, .none] } } := I3.kept (t' := s3.toks) fun b ob q => Heap.get?_push_of_some _ q
  obtain rfl : ov = Value.ref l := r1
  obtain rfl : u = Value.ref b := r
  refine wpAny_bind (wpAny_standAt (wpAny_bind (wpAny_holding (set_slice I4 hx hy hne (Heap.IsSliceOf.new ..) r2 r3 h0 hac hc hz fun s5 I5 => ?_))))
  exact wpAny_release ⟨σ, _, I5, q⟩
end
section
variable {X : Cx} {a e0 el eh : Expr} {ga gv gl gh : GE} {p2 pos pv : Pos}
/-- xs[a:c] = ys: xs a kept list, ys a list just made (or another) -/
def gSlSet (gv ga gl gh : GE) : GS := fun D ρ h => gv ρ h fun r h1 => put r h1 fun v h2 => ga ρ h2 fun s h3 => gl ρ h3 fun i h4 => gh ρ h4 fun j h5 => ∃ (n k : Nat) (xs ys : List VV) (a c : Int), s = .val (.ref n) ∧ v = .ref k ∧ i = .val (.int a) ∧ j = .val (.int c) ∧ n ≠ k ∧ h5[n]? = some (.lst xs) ∧ h5[k]? = some (.lst ys) ∧
  0 ≤ a ∧ a ≤ c ∧ c ≤ xs.length ∧ xs.length + ys.length ≤ sizeLine ∧ D.nx ρ (h5.set n (.lst (xs.take a.toNat ++ ys ++ xs.drop c.toNat)))
theorem msslset (hv : MX X e0 gv) (ha : MX X a ga) (hl : MX X el gl) (hh : MX X eh gh) (hset : ∀ v, assign (.Subscript a (.Slice (some el) (some eh) none p2) pv) X.env v = (do
      let ov ← holding [v] (eval a X.env)
      let iv ← holding [v, ov] (eval (.Slice (some el) (some eh) none p2) X.env)
      standAt pv
      holding [v, ov, iv] (setItem ov iv v)
      release [iv, v, ov] []) := by intro _; rfl)
    (hs : swapsWithSole [.Subscript a (.Slice (some el) (some eh) none p2) pv] e0 pos.line X.env = pure false := by rfl) (hw : swappedStores [.Subscript a (.Slice (some el) (some eh) none p2) pv] e0 X.env = pure none := by rfl)
    (h1 : (assignEach [.Subscript a (.Slice (some el) (some eh) none p2) pv] X.env).map (·.2) = [assign (.Subscript a (.Slice (some el) (some eh) none p2) pv) X.env] := by rfl) : MS X (.Assign [.Subscript a (.Slice (some el) (some eh) none p2) pv] e0 pos) (gSlSet gv ga gl gh) := by
  obtain ⟨t, a1, a2⟩ := ha.ex
  obtain ⟨w, c1, c2⟩ := hv.ex
  obtain ⟨tl, l1, l2⟩ := hl.ex
  obtain ⟨th, u1, u2⟩ := hh.ex
  refine ⟨_, ps_asg c1 (pg_sls a1 l1 u1 hset) hs hw h1, fun m h H ρ σ D E rh re hg k => c2 m h H ρ σ _ _ rh re hg fun m1 H1 h1 r x p1 q1 => put_ok p1 q1 fun m2 h2 v e2 r2 t2 pre q2 => ?_⟩
  refine a2 m2 h2 H1 ρ σ _ _ r2 (re.mono e2) q2 fun m3 H3 h3 s y p3 q3 => ?_
  refine l2 m3 h3 H3 ρ σ _ _ p3.rh ((re.mono e2).mono p3.ev) q3 fun m4 H4 h4 i z p4 q4 => ?_
  refine u2 m4 h4 H4 ρ σ _ _ p4.rh (((re.mono e2).mono p3.ev).mono p4.ev) q4 fun m5 H5 h5 j z2 p5 q5 => ?_
  obtain ⟨n, kk, xs, ys, ai, ci, rfl, rfl, rfl, rfl, hne, hn, hk, b0, b1, b2, b3, q⟩ := q5
  have e35 := p4.ev.trans p5.ev
  have rr := RelT.mono e35 p3.rr
  have rk := t2.mono (p3.ev.trans e35)
  obtain ⟨pa, us, rfl, hp, hpa, z1⟩ := kept_lst p5.rh hn rr
  obtain ⟨pb, ws, rfl, hpb, hpb2, z3⟩ := kept_lst p5.rh hk rk
  cases RelT.int_inv (RelT.mono p5.ev p4.rr)
  cases RelT.int_inv p5.rr
  have ne : pa ≠ pb := fun e => by
    subst e
    obtain ⟨l1, g1⟩ := List.getElem?_eq_some_iff.mp hp
    obtain ⟨l2, g2⟩ := List.getElem?_eq_some_iff.mp hpb
    exact hne ((List.getElem_inj p5.rh.nd).mp (g1.trans g2.symm))
  obtain ⟨e6, r6⟩ := rh_setlst (xs.take ai.toNat ++ ys ++ xs.drop ci.toNat) (us.take ai.toNat ++ ws ++ us.drop ci.toNat) p5.rh hn hp (((z1.take _).append z3).append (z1.drop _))
  have e06 := ((e2.trans p3.ev).trans e35).trans e6
  exact ⟨pa, pb, us, ws, ai, ci, rfl, rfl, rfl, rfl, hpa, hpb2, ne, b0, b1, by rw [← z1.len]; exact b2, by rw [← z1.len, ← z3.len]; exact b3, k.nx _ _ _ ρ σ e06 r6 (re.mono e06) q⟩
end
section
variable {ρ : VL.Env} {h : VH} {gv ga gl gh : GE} {g2 : GS} {N bk ct : VL.Env → VH → Prop} {rt : R → VH → Prop} {ex : XV}
def kSlSet (N : VL.Env → VH → Prop) (ρ : VL.Env) (v : VV) (s i j : R) (h5 : VH) : Prop := ∃ (n k : Nat) (xs ys : List VV) (a c : Int), s = .val (.ref n) ∧ v = .ref k ∧ i = .val (.int a) ∧ j = .val (.int c) ∧ n ≠ k ∧ h5[n]? = some (.lst xs) ∧ h5[k]? = some (.lst ys) ∧
  0 ≤ a ∧ a ≤ c ∧ c ≤ xs.length ∧ xs.length + ys.length ≤ sizeLine ∧ N ρ (h5.set n (.lst (xs.take a.toNat ++ ys ++ xs.drop c.toNat)))
theorem t_slset (q : gv ρ h fun r h1 => put r h1 fun v h2 => ga ρ h2 fun s h3 => gl ρ h3 fun i h4 => gh ρ h4 fun j h5 => kSlSet N ρ v s i j h5) : gSlSet gv ga gl gh ⟨N, rt, bk, ct, ex⟩ ρ h := q
theorem t_seqSls (q : gSlSet gv ga gl gh ⟨fun ρ' h' => g2 ⟨N, rt, bk, ct, ex⟩ ρ' h', rt, bk, ct, ex⟩ ρ h) : gSeq (gSlSet gv ga gl gh) g2 ⟨N, rt, bk, ct, ex⟩ ρ h := ⟨_, q, fun _ _ z => z⟩
theorem t_kslset {n k : Nat} {xs ys : List VV} {a c : Int} (hne : n ≠ k) (hn : h[n]? = some (.lst xs)) (hk : h[k]? = some (.lst ys)) (b0 : 0 ≤ a) (b1 : a ≤ c) (b2 : c ≤ xs.length) (b3 : xs.length + ys.length ≤ sizeLine)
    (q : N ρ (h.set n (.lst (xs.take a.toNat ++ ys ++ xs.drop c.toNat)))) : kSlSet N ρ (.ref k) (.val (.ref n)) (.val (.int a)) (.val (.int c)) h := ⟨n, k, xs, ys, a, c, rfl, rfl, rfl, rfl, hne, hn, hk, b0, b1, b2, b3, q⟩
end
end VL

set_option autoImplicit false
/-! VL72: the signs of a text, one after another; a text times a number; t[i] of a text. -/
namespace VL
open PySem PySem.Spec L2
section
variable {K : PySem.W.Frag} {m : List Addr} {H : Hp}
/-- a text's signs as texts -/
def signs (z : Str) : List VV := z.cps.toList.map fun c => VV.str ⟨#[c]⟩
theorem walkV_str {z : Str} : WalkV K m H (Its z) (signs z) (fun _ => True) := by
  have hl : (signs z).length = z.cps.size := by unfold signs; simp
  refine ⟨fun _ => True, fun i Hh x Hg => Hg = Hh ∧ ∃ c, z.cps[i]? = some c ∧ x = .str ⟨#[c]⟩, ⟨fun i Hh hi _ => ?_, fun Hh _ => ?_, fun i Hh x Hg _ _ y => y⟩, fun _ _ _ _ _ _ => trivial, fun i Hh x Hg m2 h2 y e r _ v hv => ?_⟩
  · show i < z.cps.size
    omega
  · show z.cps.size ≤ _
    omega
  · obtain ⟨rfl, c, hc, rfl⟩ := y
    refine ⟨Ev.refl, r, ?_⟩
    unfold signs at hv
    rw [List.getElem?_map, Array.getElem?_toList, hc] at hv
    cases hv
    exact .str
end
section
variable {X : Cx} {a : Expr} {ga : GE}
def giTxt (ga : GE) : GI := fun ρ h Q => ga ρ h fun r h1 => match r with
  | .val (.str z) => Q (signs z) (fun _ => True) h1
  | _ => False
theorem mistxt {tg : Expr} (ha : MX X a ga) : MI X tg a (giTxt ga) := by
  obtain ⟨t, a1, a2⟩ := ha.ex
  refine ⟨_, pi_str a1, fun m h H ρ σ QV R rh re hg k => a2 m h H ρ σ _ _ rh re hg fun m1 H1 h1 r x p q => ?_⟩
  split at q
  · rename_i z
    cases RelT.str_inv p.rr
    exact ⟨z, rfl, k m1 H1 h1 _ _ _ p.ev p.rh walkV_str q⟩
  · exact q.elim
end
section
variable {ρ : VL.Env} {h : VH} {ga : GE} {Q : List VV → (VH → Prop) → VH → Prop}
def kTxt (Q : List VV → (VH → Prop) → VH → Prop) (r : R) (h1 : VH) : Prop := match r with
  | .val (.str z) => Q (signs z) (fun _ => True) h1
  | _ => False
theorem t_txt (q : ga ρ h fun r h1 => kTxt Q r h1) : giTxt ga ρ h Q := q
theorem t_ktxt {z : Str} (q : Q (signs z) (fun _ => True) h) : kTxt Q (.val (.str z)) h := q
end
section
variable {X : Cx}
theorem op_mulS : OpR X (binaryOp .Mult) (fun x y H Q => ∃ (i : Str) (n : Int), x = .str i ∧ y = .int n ∧ MulOk i n ∧ Q (.str (Txt.mul i n)) H) := by
  intro pins s σ H x y v u Q I rx ry h
  obtain ⟨i, n, rfl, rfl, hz, q⟩ := h
  obtain ⟨t, rfl⟩ := rx
  obtain ⟨t', rfl⟩ := ry
  exact SB.mul hz fun t' tk => ⟨.str (Txt.mul i n), H, I.tok _, ⟨_, rfl⟩, q⟩
/-- a text times a number -/
def goMulS : GO := fun x y h Q => match x, y with
  | .val (.str z), .val (.int n) => MulOk z n ∧ Q (.val (.str (Txt.mul z n))) h
  | _, _ => False
theorem mo_mulS : MO X (binaryOp .Mult) goMulS := by
  refine ⟨_, op_mulS, fun m h H x y rx ry QV Q rh r1 r2 q k => ?_⟩
  unfold goMulS at q
  split at q
  · rename_i z n
    cases RelT.str_inv r1
    cases RelT.int_inv r2
    exact ⟨z, n, rfl, rfl, q.1, k m H h _ _ (.val rh .str) q.2⟩
  · exact q.elim
end
section
variable {h : VH} {Q : R → VH → Prop}
theorem t_mulS {z : Str} {n : Int} (c : MulOk z n) (q : Q (.val (.str (Txt.mul z n))) h) : goMulS (.val (.str z)) (.val (.int n)) h Q := ⟨c, q⟩
theorem t_ixS {z : Str} {i : Int} {c : Nat} (l : z.length ≤ sizeLine) (e : atI z.cps.toList i = some c) (q : Q (.val (.str ⟨#[c]⟩)) h) : goIx (.val (.str z)) (.val (.int i)) h Q := by
  unfold goIx; dsimp only; rw [e]; exact ⟨l, q⟩
end
section
variable {X : Cx}
/-- == of two texts -/
def goEqS : GO := fun x y h Q => ∃ a b : Str, x = .val (.str a) ∧ y = .val (.str b) ∧ Q (.val (.bl (decide (a = b)))) h
theorem mo_eqS : MO X (compareOp .Eq) goEqS := by
  refine ⟨_, op_eq, fun m h H x y rx ry QV Q rh r1 r2 q k => ?_⟩
  obtain ⟨a, b, rfl, rfl, q⟩ := q
  cases RelT.str_inv r1
  cases RelT.str_inv r2
  refine ⟨rfl, ?_⟩
  rw [show decide (V.str a = V.str b) = decide (a = b) by simp]
  exact k m H h _ _ (.val rh .bl) q
theorem t_eqT {h : VH} {Q : R → VH → Prop} {a b : Str} (q : Q (.val (.bl (decide (a = b)))) h) : goEqS (.val (.str a)) (.val (.str b)) h Q := ⟨a, b, rfl, rfl, q⟩
end
end VL

set_option autoImplicit false
/-! VL73: try: body; except C: suite (no name; the suite raises nothing and calls nothing). -/
namespace VL
open PySem PySem.Spec PyProof.Rows L2
/-- try: body; except C: suite -/
def gTryO (K : PySem.W.Frag) (cv : Value) (gb gs : GS) : GS := fun D ρ h => gb { D with ex := fun C fs vs ρ1 h1 => ∃ b, PySem.W.exmOne K (.ref C) cv = some b ∧
  (b = true → gs { D with ex := fun _ _ _ _ _ => False } ρ1 h1) ∧ (b = false → D.ex C fs vs ρ1 h1) } ρ h
theorem takes_none {X : Cx} : Takes X (fun _ _ _ _ => False) := fun _ _ ⟨_, _, _, _, _, _, _, _, _, _, _, _, _, _, _, _, w⟩ => w.elim
theorem mstryO {X : Cx} {x : Str} {cv : Value} {body suite : List Stmt} {b₀ : Stmt} {np pos pos' : Pos} {gb gs : GS} (hc : Names X x cv)
    (hb : ∀ (pn : List (Addr × Obj)) (xe : Value → Shared → Prop), PassesOwn (model X.prog X.w) X.A X.env xe → MB (X.tr pn xe) body gb)
    (hsu : ∀ (a : Addr) (pn : List (Addr × Obj)), MB (X.suite a pn) (b₀ :: suite) gs) (hs : X.stack = X.env :: X.outer := by rfl) (hf : X.env.frame = some X.env.locals := by rfl) :
    MS X (.Try body [.ExceptHandler (some (.Name x np)) none (b₀ :: suite) pos'] [] [] pos) (gTryO X.K cv gb gs) := by
  refine ⟨_, ps_try_only (ts := fun _ _ _ => tbK X.K gs (fun _ _ _ _ => False)) (tb := tbK X.K gb) hs hf hc takes_wof (fun W pn xe tk hp => pss_tb (hb pn xe hp) tk) (fun a oe cls d pn _ _ => pss_tb (X := X.suite a ((a, oe) :: pn)) (hsu a _) takes_none), fun m h H ρ σ D E rh re hg k => ?_⟩
  refine ⟨m, h, ρ, _, rh, re, hg, k.nx, k.rt, k.bk, k.ct, fun m' H' h' ρ1 σ1 C fs vs dx ys ev r1 re1 q z1 z2 z3 z4 => ?_⟩
  obtain ⟨b, hb1, hy, hn⟩ := q
  refine ⟨b, hb1, fun e a na => ?_, fun e => k.ex m' H' h' ρ1 σ1 C fs vs dx ys ev r1 re1 (hn e) z1 z2 z3 z4⟩
  have k2 := k.from_ ev r1
  exact ⟨m', h', ρ1, _, r1, re1, hy e, k2.nx, k2.rt, k2.bk, k2.ct, fun _ _ _ _ _ _ _ _ _ _ _ _ _ q => q.elim⟩
section
variable {K : PySem.W.Frag} {ρ : VL.Env} {h : VH} {gs gb g2 : GS} {N bk ct : VL.Env → VH → Prop} {rt : R → VH → Prop} {ex : XV} {cv : Value}
theorem t_tryO (q : gb ⟨N, rt, bk, ct, fun C fs vs ρ1 h1 => ∃ b, PySem.W.exmOne K (.ref C) cv = some b ∧ (b = true → gs ⟨N, rt, bk, ct, fun _ _ _ _ _ => False⟩ ρ1 h1) ∧ (b = false → ex C fs vs ρ1 h1)⟩ ρ h) : gTryO K cv gb gs ⟨N, rt, bk, ct, ex⟩ ρ h := q
theorem t_seqTO (q : gTryO K cv gb gs ⟨fun ρ' h' => g2 ⟨N, rt, bk, ct, ex⟩ ρ' h', rt, bk, ct, ex⟩ ρ h) : gSeq (gTryO K cv gb gs) g2 ⟨N, rt, bk, ct, ex⟩ ρ h := ⟨_, q, fun _ _ z => z⟩
end
end VL

set_option autoImplicit false
/-! VL74: min of three whole numbers. -/
namespace VL
open PySem L2
section
variable {X : Cx} {K : PySem.W.Frag} {m : List Addr} {H : Hp}
def gcI3 (f : Int → Int → Int → Int) : GC := fun vs h Q => match vs with
  | [.int i, .int j, .int k] => Q (.val (.int (f i j k))) h
  | _ => False
theorem rels3 {v w u : VV} {xs : List V} (r : Rels K m H [v, w, u] xs) : ∃ x y z, xs = [x, y, z] ∧ RelT K m H v x ∧ RelT K m H w y ∧ RelT K m H u z := by
  match xs, r with
  | [x, y, z], r => exact ⟨x, y, z, rfl, r.at_ 0 v x rfl rfl, r.at_ 1 w y rfl rfl, r.at_ 2 u z rfl rfl⟩
  | [], r => have := r.len; simp at this
  | [_], r => have := r.len; simp at this
  | [_, _], r => have := r.len; simp at this
  | _ :: _ :: _ :: _ :: _, r => have := r.len; simp at this
abbrev min3 (i j k : Int) : Int := min (min i j) k
theorem mc_min3 (hc : X.calm = true := by rfl) : MC X (.builtin "min") (gcI3 min3) := by
  refine ⟨_, call_min3Nu hc, fun m h H xs vs QV Q rh r q k => ?_⟩
  unfold gcI3 at q
  split at q
  · rename_i i j l
    obtain ⟨x, y, z, rfl, r1, r2, r3⟩ := rels3 r
    cases r1.int_inv
    cases r2.int_inv
    cases r3.int_inv
    refine ⟨_, _, _, .int (min3 i j l), rfl, ?_, k m H h _ _ (.val rh .int) q⟩
    have e2 : ∀ a b : Int, nuMin2 (.int a) (.int b) = some (.int (min a b)) := fun a b => by
      show some (if decide (b < a) = true then V.int b else V.int a) = _
      by_cases c : b < a
      · rw [if_pos (decide_eq_true c), Int.min_eq_right (by omega)]
      · rw [if_neg (by simpa using c), Int.min_eq_left (by omega)]
    unfold nuMin3
    rw [e2]
    exact e2 _ _
  · exact q.elim
end
section
variable {h : VH} {Q : R → VH → Prop} {i j k : Int}
theorem t_min3 (q : Q (.val (.int (min3 i j k))) h) : gcI3 min3 [.int i, .int j, .int k] h Q := q
end
end VL

set_option autoImplicit false
/-! VL75: whole numbers sorted, any many. -/
namespace VL
open PySem L2 PySem.Spec PyProof.Rows
section
variable {X : Cx}
def guSortI : GU := fun x h Q => ∃ ns : List Int, lintsOf h x = some ns ∧ ∀ qs : List Int, qs.Perm ns → qs.Pairwise (fun x y => x ≤ y) → Q (.new (.lst (qs.map .int))) h
theorem mc_sortI : MC1 X (.builtin "sorted") guSortI := by
  refine ⟨_, cr_sortedI, fun m h H x rx QV Q rh r1 q k => ?_⟩
  obtain ⟨ns, e, q⟩ := q
  obtain ⟨p, rfl, hp⟩ := lintsOf_ok rh r1 e
  refine ⟨p, ns, rfl, .of hp, fun zs l hs hb hl => ?_⟩
  exact k m _ h _ _ (.lst rh hl (rels_ints zs)) (q zs hs hb)
end
section
variable {h : VH} {Q : R → VH → Prop} {n : Nat} {ns : List Int}
theorem t_sortI (e : h[n]? = some (.lst (ns.map VV.int))) (q : ∀ qs : List Int, qs.Perm ns → qs.Pairwise (fun x y => x ≤ y) → Q (.new (.lst (qs.map .int))) h) : guSortI (.val (.ref n)) h Q :=
  ⟨ns, by unfold lintsOf; rw [lst_ref e]; exact intsOf_map ns, q⟩
theorem t_addLLw {k : Nat} {s z : List VV} (e1 : h[n]? = some (.lst s)) (e2 : h[k]? = some (.lst z)) (l : s.length + z.length ≤ 100000) (q : Q (.new (.lst (s ++ z))) h) : goAdd (.val (.ref n)) (.val (.ref k)) h Q := by
  unfold goAdd
  simp only [lst_ref e1, lst_ref e2]
  exact ⟨Nat.le_trans l (by decide), q⟩
end
end VL

set_option autoImplicit false
/-! VL76: for k in d, d a dict with tuples for keys that isn't changed within. -/
namespace VL
open PySem L2 PySem.Spec PyProof.Rows
section
variable {X : Cx} {K : PySem.W.Frag} {m : List Addr} {H : Hp}
def keyTV (k : List Key) : VV := .tup (k.map keyV)
/-- the keys, under the lock -/
def giKT (n : Nat) (ob : Obj) (kvs : List (List Key × V)) (vs : List VV) (ga : GE) : GI := fun ρ h Q => ga ρ h fun r h1 => r = .val (.ref n) ∧ h1[n]? = some (.fdt ob kvs vs) ∧ Q ((kvs.map Prod.fst).map keyTV) (fun h' => h'[n]? = some (.fdt ob kvs vs)) h1
def lkE (n : Nat) (ob : Obj) (kvs : List (List Key × V)) (ks : List (List Key)) (vs : List VV) (D : VEnds) : VEnds where
  nx := fun ρ' h' => h'[n]? = some (.fdt ob kvs vs) ∧ D.nx ρ' (h'.set n (.dtu ks vs))
  rt := fun r h' => h'[n]? = some (.fdt ob kvs vs) ∧ ∃ b, r = .val (.bl b) ∧ D.rt (.val (.bl b)) (h'.set n (.dtu ks vs))
def gForD (ga : GE) (g : GG) (gs : GS) : GS := fun D ρ h => ∃ n ks vs, h[n]? = some (.dtu ks vs) ∧ ∀ (ob : Obj) (kvs : List (List Key × V)), kvs.map Prod.fst = ks → gFor (giKT n ob kvs vs ga) g gs (lkE n ob kvs ks vs D) ρ (h.set n (.fdt ob kvs vs))
theorem keyT_rel {k : List Key} {q : Addr} (e : H q = some (.tup (k.map kV))) : RelT K m H (keyTV k) (.ref q) := .tup e (by simp) fun i x y e1 e2 => by
  rw [List.getElem?_map] at e1 e2
  cases ek : k[i]? with
  | none => rw [ek] at e1; cases e1
  | some c =>
    rw [ek] at e1 e2
    cases e1; cases e2
    cases c with
    | inl i => exact .int
    | inr s => exact .str
theorem msforD {tg iter : Expr} {body : List Stmt} {ga : GE} {g : GG} {gs : GS} {js : List Nat} {pos : Pos} (ha : MX X iter ga) (hg : MG X tg g js) (hb : MB X body gs) (hp : PassesOwn (model X.prog X.w) X.A X.env X.xe) (hc : X.calm = true := by rfl)
    (hf : ∀ x : Value, foldedSetIterable iter X.env x = pure x := by first | exact fun _ => rfl | (intro x; rfl)) : MS X (.For tg iter body [] pos) (gForD ga g gs) := by
  obtain ⟨td, a1, a2⟩ := ha.ex
  obtain ⟨tgt, g1, g2⟩ := hg.ex
  obtain ⟨tb, b1, b2⟩ := hb.ex
  refine ⟨_, ps_lock (ps_for hp hc (pi_keys a1) g1 b1 hf), fun m h H ρ σ D E rh re hq k => ?_⟩
  obtain ⟨n, ks, vs, hn, q⟩ := hq
  have ml : n < m.length := by rw [rh.len]; exact (List.getElem?_eq_some_iff.mp hn).1
  have hpa : m[n]? = some m[n] := List.getElem?_eq_getElem ml
  generalize m[n] = pa at hpa
  obtain ⟨kvs, z1, z2, z3⟩ := rh.obj n _ pa hn hpa
  refine ⟨pa, .dT kvs, z1, trivial, fun od => ?_⟩
  obtain ⟨ev, rh2⟩ := rh_write (ov := .fdt od kvs vs) (u := .frz od (.dT kvs)) rh hn hpa fun ev => ⟨upd_same, z3.mono ev⟩
  have hi : RzI X.K (iKeys td) (giKT n od kvs vs ga) := fun m h H ρ σ QV R rh re hq k => by
    refine a2 m h H ρ σ _ _ rh re hq fun m1 H1 h1 r x p qq => ?_
    obtain ⟨rfl, hf1, qq⟩ := qq
    obtain ⟨pb, rfl, eb⟩ := RelT.ref_inv p.rr
    obtain ⟨w1, w2⟩ := p.rh.obj n _ pb hf1 eb
    refine ⟨pb, od, rfl, .inr ⟨kvs, w1, k m1 H1 h1 _ _ _ p.ev p.rh ⟨_, _, by rw [List.length_map, List.length_map]; exact walk_keysT, fun m2 h2 H2 e2 r2 s2 => (show RelO X.K m2 H2 pb (.fdt od kvs vs) from r2.obj n _ pb s2 (e2.pre _ _ eb)).1, fun i Hh x Hg m2 h2 y e r2 s2 v hv => ?_⟩ qq⟩⟩
    obtain ⟨rfl, k', v', qd, e1, rfl, e2⟩ := y
    rw [List.getElem?_map, List.getElem?_map, e1] at hv
    cases hv
    exact ⟨Ev.refl, r2, keyT_rel e2⟩
  refine rz_for hi g2 b2 m _ _ ρ σ (lkE n od kvs ks vs D) _ rh2 (re.mono ev) (q od kvs z2) ⟨fun m' H' h' ρ' σ' ev' rh' re' hq => ?_, fun m' H' h' r x p hq => ?_, fun m' H' h' ρ' σ' ev' rh' re' hq => hq.elim, fun m' H' h' ρ' σ' ev' rh' re' hq => hq.elim, fun m' H' h' ρ' σ' C fs vs dx ys ev' rh' re' hq => hq.elim⟩
  · obtain ⟨hn', q'⟩ := hq
    have hp' := ev'.pre _ _ hpa
    obtain ⟨w1, w2⟩ := rh'.obj n _ pa hn' hp'
    obtain ⟨ev2, rh3⟩ := rh_write (ov := .dtu ks vs) (u := .dT kvs) rh' hn' hp' fun ev => ⟨kvs, upd_same, z2, w2.mono ev⟩
    exact ⟨w1, k.nx m' _ _ ρ' σ' ((ev.trans ev').trans ev2) rh3 (re'.mono ev2) q'⟩
  · obtain ⟨hn', b, rfl, q'⟩ := hq
    have hp' := p.ev.pre _ _ hpa
    obtain ⟨w1, w2⟩ := p.rh.obj n _ pa hn' hp'
    obtain ⟨ev2, rh3⟩ := rh_write (ov := .dtu ks vs) (u := .dT kvs) p.rh hn' hp' fun ev => ⟨kvs, upd_same, z2, w2.mono ev⟩
    have ex : x = .bl b := by
      have := p.rr
      cases this; rfl
    subst ex
    exact ⟨w1, k.rt m' _ _ _ _ ((Pst.val rh3 .bl).from_ ((ev.trans p.ev).trans ev2) rh3) q'⟩
end
section
variable {ρ : VL.Env} {h : VH} {g : GG} {gs g2 : GS} {ga : GE} {N bk ct : VL.Env → VH → Prop} {rt : R → VH → Prop} {ex : XV}
theorem t_seqFD (q : gForD ga g gs ⟨fun ρ' h' => g2 ⟨N, rt, bk, ct, ex⟩ ρ' h', rt, bk, ct, ex⟩ ρ h) : gSeq (gForD ga g gs) g2 ⟨N, rt, bk, ct, ex⟩ ρ h := ⟨_, q, fun _ _ z => z⟩
end
end VL

set_option autoImplicit false
/-! VL77: list(d), d a dict with ints and texts for keys. -/
namespace VL
open PySem L2
section
variable {X : Cx}
def guListD : GU := fun x h Q => ∃ (n : Nat) (ks : List Key) (vs : List VV), x = .val (.ref n) ∧ h[n]? = some (.dic ks vs) ∧ Q (.new (.lst (ks.map keyV))) h
theorem keys_rel {K : PySem.W.Frag} {m : List Addr} {H : Hp} {kvs : List (Key × V)} : Rels K m H ((kvs.map Prod.fst).map keyV) (kvs.map fun kv => kV kv.1) := by
  refine ⟨by simp, fun i a b e1 e2 => ?_⟩
  rw [List.map_map, List.getElem?_map] at e1
  rw [List.getElem?_map] at e2
  cases e : kvs[i]? with
  | none => rw [e] at e1; cases e1
  | some kv =>
    rw [e] at e1 e2
    cases e1; cases e2
    obtain ⟨k, v⟩ := kv
    cases k with
    | inl i => exact .int
    | inr s => exact .str
theorem mc_listD (hc : X.calm = true := by rfl) : MC1 X (.type "list") guListD := by
  refine ⟨_, call_listD hc, fun m h H x rx QV Q rh r1 q k => ?_⟩
  obtain ⟨n, ks, vs, rfl, hn, q⟩ := q
  obtain ⟨a, rfl, ha⟩ := RelT.ref_inv r1
  obtain ⟨kvs, z1, rfl, z3⟩ := rh.obj n _ a hn ha
  exact ⟨a, kvs, rfl, .inl z1, fun l hl => k m _ h _ _ (.lst rh hl keys_rel) q⟩
end
section
variable {h : VH} {Q : R → VH → Prop} {n : Nat} {ks : List Key} {vs : List VV}
theorem t_listD (e : h[n]? = some (.dic ks vs)) (q : Q (.new (.lst (ks.map keyV))) h) : guListD (.val (.ref n)) h Q := ⟨n, ks, vs, rfl, e, q⟩
end
end VL

set_option autoImplicit false
/-! VL78: len(d), d a dict with ints and texts for keys. -/
namespace VL
open PySem L2
section
variable {X : Cx}
def guLenD : GU := fun x h Q => ∃ (n : Nat) (ks : List Key) (vs : List VV), x = .val (.ref n) ∧ h[n]? = some (.dic ks vs) ∧ Q (.val (.int (ks.length : Int))) h
theorem mc_lenD : MC1 X (.builtin "len") guLenD := by
  refine ⟨_, call_lenD, fun m h H x rx QV Q rh r1 q k => ?_⟩
  obtain ⟨n, ks, vs, rfl, hn, q⟩ := q
  obtain ⟨a, rfl, ha⟩ := RelT.ref_inv r1
  obtain ⟨kvs, z1, rfl, z3⟩ := rh.obj n _ a hn ha
  rw [List.length_map] at q
  exact ⟨a, kvs, rfl, z1, k m H h _ _ (.val rh .int) q⟩
end
section
variable {h : VH} {Q : R → VH → Prop} {n : Nat} {ks : List Key} {vs : List VV}
theorem t_lenD (e : h[n]? = some (.dic ks vs)) (q : Q (.val (.int (ks.length : Int))) h) : guLenD (.val (.ref n)) h Q := ⟨n, ks, vs, rfl, e, q⟩
end
end VL

set_option autoImplicit false
/-! VL79: zip(list, tuple), the tuple as it was handed in. -/
namespace VL
open PySem L2
section
variable {K : PySem.W.Frag} {m : List Addr} {H : Hp} {X : Cx} {a b : Expr} {ga gb : GE} {gr : GA} {pos : Pos}
theorem walkV_zipN {p1 p2 : Addr} {xs ys : List VV} {vs : List V} {st : VH → Prop} (hst : ∀ m2 h2 H2, Ev K m m2 H H2 → RH K m2 h2 H2 → st h2 → ∃ us, SqL K H2 p1 us ∧ Rels K m2 H2 xs us) (s2 : H p2 = some (.tup vs)) (r2 : Rels K m H ys vs) : WalkV K m H (ItzM K p1 p2) (zipV xs ys) st := by
  refine ⟨fun Hh => SqT K Hh p2 vs ∧ ∃ us, SqL K Hh p1 us ∧ us.length = xs.length, fun i Hh v Hg => ∃ T x z, v = .ref T ∧ Hh T = none ∧ Hg = upd Hh T (.tup [x, z]) ∧ (∀ us, SqL K Hh p1 us → us[i]? = some x) ∧ vs[i]? = some z, ⟨fun i Hh hi ⟨q2, us, q1, l1⟩ => ?_, fun Hh ⟨q2, us, q1, l1⟩ => ?_, fun i Hh x Hg _ q y => ?_⟩, fun m2 h2 H2 e r s => ?_, fun i Hh x Hg m3 h3 y e rr s v hv => ?_⟩
  · rw [zipV_len] at hi
    have h1 : i < us.length := by omega
    have h2 : i < vs.length := by rw [← r2.len]; omega
    exact ⟨us, vs, us[i], vs[i], q1, q2, by simp [h1], by simp [h2]⟩
  · exact ⟨us, vs, q1, q2, by rw [zipV_len, r2.len, l1]⟩
  · obtain ⟨T, x, z, h1, h2, h3, h4, h5⟩ := y
    exact ⟨T, x, z, h1, h2, h3, h4, h5 vs q.1⟩
  · obtain ⟨us, q1, q2⟩ := hst m2 h2 H2 e r s
    exact ⟨.of (e.tk _ _ s2), us, q1, q2.len.symm⟩
  · obtain ⟨T, x, z, rfl, hT, rfl, y1, y2⟩ := y
    obtain ⟨us, q1, q2⟩ := hst m3 h3 _ e rr s
    obtain ⟨v1, v2, e1, e2, rfl⟩ := zipV_get hv
    exact pair_new2 hT rr (q2.at_ i v1 x e1 (y1 us q1)) ((r2.at_ i v2 z e2 y2).mono e)
/-- zip(list, tuple) -/
def giZipN (gr : GA) : GI := fun ρ h Q => gr ρ h fun vs h1 => match vs with
  | [.ref n, .tup ys] => ∃ xs, h1[n]? = some (.lst xs) ∧ Q (zipV xs ys) (fun h2 => h2[n]? = some (.lst xs)) h1
  | _ => False
theorem mizN {p tpos : Pos} {elts : List Expr} {kk : Nat} (hm : X.mg "zip" = none) (ha : MA X [a, b] gr) (hg : Gl X "zip" := by rfl)
    (hs : starEach [a, b] X.env = (false, eval a X.env) :: starEach [b] X.env := by rfl) (hpl : (backTo pos (starEach [b] X.env)).any (·.1) = false := by rfl) :
    MI X (.Tuple elts kk tpos) (.Call (.Name "zip" p) [a, b] [] pos) (giZipN gr) := by
  obtain ⟨t, a1, a2⟩ := ha.ex
  refine ⟨_, pi_zipM hg hm a1 hs hpl, fun m h H ρ σ QV R rh re hg k => a2 m h H ρ σ _ _ rh re hg fun m1 H1 h1 vs ws e1 r1 t1 q => ?_⟩
  split at q
  · rename_i n ys
    obtain ⟨xs, hn, q⟩ := q
    obtain ⟨y1, y2, rfl, u1, u2⟩ := rels2 t1
    obtain ⟨pa, rfl, ea⟩ := RelT.ref_inv u1
    obtain ⟨us, c1, c2⟩ := r1.obj n _ pa hn ea
    obtain ⟨pb, vs, rfl, hp, rr⟩ := RelT.tup_raw u2
    exact ⟨pa, pb, us, vs, rfl, .of c1, (.of hp), k m1 H1 h1 _ _ _ e1 r1 (walkV_zipN (fun m2 h2 H2 e2 r2 s2 => by
      obtain ⟨us', c1', c2'⟩ := r2.obj n _ pa s2 (e2.pre _ _ ea)
      exact ⟨us', .of c1', c2'⟩) hp rr) q⟩
  · exact q.elim
def kZipN (Q : List VV → (VH → Prop) → VH → Prop) (vs : List VV) (h1 : VH) : Prop := match vs with
  | [.ref n, .tup ys] => ∃ xs, h1[n]? = some (.lst xs) ∧ Q (zipV xs ys) (fun h2 => h2[n]? = some (.lst xs)) h1
  | _ => False
theorem t_zipN {ρ : VL.Env} {h : VH} {Q : List VV → (VH → Prop) → VH → Prop} (q : gr ρ h fun vs h1 => kZipN Q vs h1) : giZipN gr ρ h Q := q
theorem t_kzipN {h : VH} {n : Nat} {xs ys : List VV} {Q : List VV → (VH → Prop) → VH → Prop} (e : h[n]? = some (.lst xs)) (q : Q (zipV xs ys) (fun h2 => h2[n]? = some (.lst xs)) h) : kZipN Q [.ref n, .tup ys] h := ⟨xs, e, q⟩
/-- whether a made tuple holds a flat value -/
def goInF : GO := fun x y h Q => ∃ (v : VV) (xs : List VV), x = .val v ∧ y = .val (.ftp xs) ∧ flatVV v = true ∧ xs.all flatVV = true ∧ Q (.val (.bl (xs.any fun z => eqF z v))) h
theorem mo_inF : MO X (compareOp .In) goInF := by
  refine ⟨_, op_in_seq, fun m h H x y rx ry QV Q rh r1 r2 q k => ?_⟩
  obtain ⟨v, xs, rfl, rfl, f1, f2, q⟩ := q
  obtain ⟨p, ys, rfl, s, rs⟩ := RelT.ftp_inv r2
  obtain ⟨a1, a2⟩ := any_ok r1 f1 rs f2
  exact ⟨p, ys, rfl, .inr s.sq, flat_ok r1 f1, a1, by rw [a2]; exact k m H h _ _ (.val rh .bl) q⟩
theorem t_inF {h : VH} {Q : R → VH → Prop} {v : VV} {xs : List VV} {b : Bool} (f1 : flatVV v = true) (f2 : xs.all flatVV = true) (e : (xs.any fun z => eqF z v) = b) (q : Q (.val (.bl b)) h) : goInF (.val v) (.val (.ftp xs)) h Q := ⟨v, xs, rfl, rfl, f1, f2, by rw [e]; exact q⟩
end
end VL

set_option autoImplicit false
/-! VL80: try: .. except C as n: suite (the exception is an object there); defs that may be called within such a suite. -/
namespace VL
open PySem L2 PySem.Spec PyProof.Rows
theorem _root_.L2H.RoomH.units {k : Nat} {A : Around} (r : L2H.RoomH k A) : A.units + 64 < cLine := by have := r.un; omega
theorem _root_.L2H.RoomH.units0 {k : Nat} {A : Around} (r : L2H.RoomH k A) : A.units < cLine := by have := r.un; omega
theorem hw65 {k : Nat} {A : Around} (r : L2H.RoomH k A) : A.units + 65 < cLine := by have := r.un; omega
theorem hw1 {k : Nat} {A : Around} (r : L2H.RoomH k A) : A.units + 1 < cLine := by have := r.un; omega
theorem roomH_to {j k : Nat} {A : Around} (r : Room k A) (h : j ≤ k) : L2H.RoomH j A := (L2H.roomH_of r).mono h
theorem roomH_suite {k : Nat} {A : Around} (a : Addr) (r : Room k A) : L2H.RoomH k (A.mark (some (.ref a))) := ⟨r.dp, r.un⟩
/-- a def's promise, whether an exception is handled or not -/
structure FnW (P : Program) (w : World) (K : PySem.W.Frag) (mg : Str → Option Value) (base : Heap) (k : Nat) (f : Addr) (fd : FuncData) (ps : List Str) (sp : Sp) : Prop where
  len : ∀ vs H Q E, sp vs H Q E → vs.length = ps.length
  run : ∀ (A : Around) (outer : List PySem.Env) (s : Shared) (H : Hp) (args : Args) (us : List Value) (vs : List V) (Q : VK) (E : XK), L2H.RoomH k A → Env0 P w K mg base A outer s H → BindsTo s fd args (ps.zip us) → Vals vs us → sp vs H Q E →
    codeAny (model P w) A (.call (.ref f) args) (CR L2.CX0 outer P w H s Q E) s
theorem FnW.mono {P : Program} {w : World} {K : PySem.W.Frag} {mg : Str → Option Value} {base : Heap} {j k : Nat} {f : Addr} {fd : FuncData} {ps : List Str} {sp : Sp} (F : FnW P w K mg base j f fd ps sp) (h : j ≤ k) : FnW P w K mg base k f fd ps sp :=
  ⟨F.len, fun A outer s H args us vs Q E hr => F.run A outer s H args us vs Q E (hr.mono h)⟩
/-- such a def's body: nothing is said of the exception that is handled, none leaves -/
def cxW (P : Program) (w : World) (K : PySem.W.Frag) (mg : Str → Option Value) (base : Heap) (N : List Str) (qual : Str) (scope : Scope) (f : Addr) (cd : Value) (A : Around) (outer : List PySem.Env) (s : Shared) (H : Hp) : Cx :=
  { cxOf L2.CX0 P w K mg base N qual scope f cd A outer s H L2.E0 with calm := false, xe := fun _ _ => False }
section
variable {P : Program} {w : World} {K : PySem.W.Frag} {mg : Str → Option Value} {base : Heap}
theorem inv_startW {N ps : List Str} {qual : Str} {scope : Scope} {f : Addr} {cd : Value} {A : Around} {outer : List PySem.Env} {s s1 : Shared} {H : Hp} {us : List Value} {vs : List V}
    (S : FnScope N ps scope) (e0 : Env0 P w K mg base A outer s H) (hl : vs.length = ps.length) (r : Vals vs us)
    (x : InCallC s s.heap.objs.size (bindL (envOfC qual scope s.heap.objs.size f cd).kindOf (ps.zip us) fun _ => none) (cellsFrom (s.heap.objs.size + 1) scope.names []) (bindC (envOfC qual scope s.heap.objs.size f cd).kindOf (ps.zip us) fun _ => none) s1) :
    L2.Inv (cxW P w K mg base N qual scope f cd A outer s H) [] (L2.start N vs) H s1 := by
  have e1 : Env0 P w K mg base { A with handled := none } outer s H := ⟨e0.frames, e0.mod, e0.bs, e0.bsz, e0.funs, e0.frf, e0.hok, e0.bare⟩
  have I := inv_start (CX := L2.CX0) (E := L2.E0) S (rfl : ({ A with handled := none } : Around).handled = none) e1 hl r x
  obtain ⟨ok, os, bare, base, loc, cell, free, freeC, pin, hok, len⟩ := I
  refine ⟨?_, os, bare, base, loc, cell, free, freeC, pin, hok, len⟩
  exact ⟨ok.mod, ok.kind, ok.glob, ok.blt, ok.above, ok.inj, ok.has, ok.cab, (fun z => absurd (show false = true from z) Bool.false_ne_true), Around.frames_deeper e0.frames, ok.stk, ok.exf, ok.bs, ok.bsz, ok.noex, ok.exfs, ok.funs, ok.frf⟩
/-- such a def by its body -/
theorem fnW_of {x qual : Str} {st : Stmt} {f : Addr} {fd : FuncData} {N ps : List Str} {k : Nat} {sp : Sp} (F : Fun K x qual st f fd) (S : FnScope N ps (defScope st)) (len : ∀ vs H Q E, sp vs H Q E → vs.length = ps.length)
    (hbody : ∀ (cdv : Value) (A : Around) (outer : List PySem.Env) (s : Shared) (H : Hp) (vs : List V) (Q : VK) (E : XK), L2H.RoomH k (A.deeper (envOfC qual (defScope st) s.heap.objs.size f cdv)) → sp vs H Q E →
      ∃ t, PSs (cxW P w K mg base N qual (defScope st) f cdv A outer s H) (defBody st) t ∧ t { nx := fun _ H' => Q .non H', rt := Q } (L2.start N vs) H) : FnW P w K mg base (k + 1) f fd ps sp := by
  obtain ⟨oc, od, kV, doc, pm, an, cdv, ct, osl, rfl, lk, hcd⟩ := F.ex
  constructor
  · exact len
  intro A outer s H args us vs Q E hr e0 hb r hsp
  have inH : K.In s.heap := e0.mod.kin.keeps fun b o e => (e0.bs b o e).1
  have seen : ∀ y ∈ ps.zip us, (defScope st).names.lookup y.1 = some .local ∨ ((defScope st).names.lookup y.1 = some .cell ∧ ((cellsFrom (s.heap.objs.size + 1) (defScope st).names []).lookup y.1).isSome = true) := by
    rintro ⟨n, v⟩ hy
    exact (S.par n (List.of_mem_zip hy).1).imp id fun q => ⟨q, PySem.W.cellsFrom_some _ _ _ (.inl q)⟩
  refine codeAny_call_function hr.depth (inH _ _ lk) rfl S.co S.gen rfl (PySem.W.codeRec_of inH hcd) (hb _ _ _ _ (wpAny_newFunctionEnv_cells S.kind seen ?_))
  rintro env rfl s1 x
  refine ⟨(e0.mod.nolimit.keeps fun b o e => (e0.bs b o e).1).keeps x.toInCall.keep, codeAny_func ?_⟩
  obtain ⟨t, ht, hq⟩ := hbody cdv A outer s H vs Q E (hr.deeper _) hsp
  refine wpAny_mono (ht.run [] s1 (L2.start N vs) H _ (inv_startW S e0 (len _ _ _ _ hsp) r x) hq) (fun fl s' hs => ?_) fun _ _ hs => (show False from hs).elim
  match fl, hs with
  | .ret u, ⟨v, σ', H', J, rv, q⟩ => exact ⟨v, H', J.os, J.bare, J.base, J.hok, rv, q⟩
  | .next, ⟨σ', H', J, q⟩ => exact ⟨.non, H', J.os, J.bare, J.base, J.hok, rfl, q⟩
  | .brk, ⟨_, _, _, q⟩ => exact q.elim
  | .cont, ⟨_, _, _, q⟩ => exact q.elim
theorem def_okW {x qual : Str} {st : Stmt} {f : Addr} {fd : FuncData} {N ps : List Str} {k : Nat} {S : GC} {g : GS} (F : Fun K x qual st f fd) (sc : FnScope N ps (defScope st))
    (hb : ∀ (cdv : Value) (A : Around) (outer : List PySem.Env) (s : Shared) (H : Hp), L2H.RoomH k (A.deeper (envOfC qual (defScope st) s.heap.objs.size f cdv)) → MB (cxW P w K mg base N qual (defScope st) f cdv A outer s H) (defBody st) g)
    (hg : ∀ (as : List VV) (h : VH) (QV : R → VH → Prop), as.length = ps.length → S as h QV → g { nx := fun _ h' => fin h.length QV (.val .non) h', rt := fin h.length QV } (ini N.length as) h) :
    FnW P w K mg base (k + 1) f fd ps (spOf K ps.length S) := by
  refine fnW_of F sc (fun vs H Q E ⟨_, _, _, _, _, r, l, _⟩ => by rw [← r.len, l]) ?_
  rintro cdv A outer s H vs Q E hr ⟨m, h, as, QV, rh, r, l, hs, k⟩
  obtain ⟨t, t1, t2⟩ := (hb cdv A outer s H hr).ex
  refine ⟨t, t1, t2 m h H (ini N.length as) (L2.start N vs) _ _ rh (RE.ini r) (hg as h QV l hs) ⟨fun m1 H1 h1 ρ1 σ1 e1 r1 _ q => ?_, fun m1 H1 h1 r x p q => ?_, fun _ _ _ _ _ _ _ _ q => q.elim, fun _ _ _ _ _ _ _ _ q => q.elim, fun _ _ _ _ _ _ _ _ _ _ _ _ _ q => q.elim⟩⟩
  · obtain ⟨r2, h2, f, q2⟩ := q
    obtain ⟨m2, p2⟩ := fin_ok f rh.len (⟨e1, r1, .non, fun _ _ z => nomatch z⟩ : Pst K m H m1 H1 h1 (.val .non) .non)
    exact k m2 H1 h2 r2 .non p2 q2
  · obtain ⟨r2, h2, f, q2⟩ := q
    obtain ⟨m2, p2⟩ := fin_ok f rh.len p
    exact k m2 H1 h2 r2 x p2 q2
end
/-! ### calls of such defs -/
section
variable {X : Cx}
theorem pe_callW {k : Nat} {f : Addr} {fd : FuncData} {ps : List Str} {sp : Sp} {x : Str} {p pos : Pos} {e : Expr} {es : List Expr} {t : TA} (F : FnW X.prog X.w X.K X.mg X.base k f fd ps sp) (hr : L2H.RoomH k X.A) (hg : Gl X x) (hm : X.mg x = some (.ref f)) (hk : PySem.W.keepIn X.K (.ref f) = true) (hb : Binds X.K fd ps [])
    (ha : PA X (e :: es) t) (hdb : (x == ("__debug__" : Str)) = false) (he : starEach (e :: es) X.env = (false, eval e X.env) :: starEach es X.env) (hpl : (backTo pos (starEach es X.env)).any (·.1) = false) :
    PE X (.Call (.Name x p) (e :: es) [] pos) (fun σ H Q => t σ H fun vs H1 => sp vs H1 Q L2.E0) := by
  constructor
  intro pins s σ H Q I h
  refine wpAny_Call_Name_kw (ld_glob I hg hm (PySem.W.callWith_K (h₀ := X.base) I.ok.mod.kin hk (thn (ha.run pos pins s σ H _ I h) ?_) he hpl) hdb)
  rintro us s1 ⟨vs, H1, I1, r, q⟩
  have hl := (r.length.symm.trans (F.len _ _ _ _ q))
  refine ⟨I1.kIn, wpAny_call (codeAny_mono (F.run X.A X.stack s1 H1 ⟨us, []⟩ us vs Q L2.E0 hr I1.env0 (by have := hb s1 us I1.kIn (by simpa using hl); simpa using this) r q) fun z s' hq => ?_)⟩
  match z, hq with
  | .error _, hq => exact False.elim hq
  | .ok (.ret u), hq => exact I1.after hq
  | .ok .next, hq => exact False.elim hq
  | .ok .brk, hq => exact False.elim hq
  | .ok .cont, hq => exact False.elim hq
theorem mcallW {n k : Nat} {f : Addr} {fd : FuncData} {ps : List Str} {S : GC} {x : Str} {p pos : Pos} {a : Expr} {es : List Expr} {gr : GA} (F : FnW X.prog X.w X.K X.mg X.base k f fd ps (spOf X.K ps.length S)) (hr : L2H.RoomH k X.A) (hm : X.mg x = some (.ref f)) (hk : PySem.W.keepIn X.K (.ref f) = true) (hb : Binds X.K fd ps [])
    (ha : MA X (a :: es) gr) (hl : ps.length = n := by rfl) (hg : Gl X x := by rfl) (hd : (x == ("__debug__" : Str)) = false := by decide) (hs : starEach (a :: es) X.env = (false, eval a X.env) :: starEach es X.env := by rfl) (hs2 : (backTo pos (starEach es X.env)).any (·.1) = false := by rfl) :
    MX X (.Call (.Name x p) (a :: es) [] pos) (gCallD n S gr) := by
  subst hl
  obtain ⟨t, a1, a2⟩ := ha.ex
  refine ⟨_, pe_callW F hr hg hm hk hb a1 hd hs hs2, fun m h H ρ σ QV Q rh re hg k => a2 m h H ρ σ _ _ rh re hg fun m1 H1 h1 vs xs e1 r1 t1 q => ?_⟩
  exact ⟨m1, h1, vs, QV, r1, t1, q.1, q.2, fun m2 H2 h2 r z p q => k m2 H2 h2 r z (p.from_ e1 r1) q⟩
end
/-! ### try: .. except C as n: suite -/
section
variable {X : Cx} {pins : List (Addr × Obj)} {σ : L2.St} {H : Hp} {s : Shared}
theorem inv_fewer {a : Addr} {pn pn2 q : List (Addr × Obj)} (I : L2.Inv (X.suite a pn) q σ H s) (h : ∀ p ∈ pn2, p ∈ pn) : L2.Inv (X.suite a pn2) [] σ H s :=
  ⟨⟨I.ok.mod, I.ok.kind, I.ok.glob, I.ok.blt, I.ok.above, I.ok.inj, I.ok.has, I.ok.cab, (fun z => absurd (show false = true from z) Bool.false_ne_true), I.ok.frames, I.ok.stk, I.ok.exf, I.ok.bs, I.ok.bsz, I.ok.noex, I.ok.exfs, I.ok.funs, I.ok.frf⟩,
    I.os, I.bare, I.base, I.loc, I.cell, I.free, I.freeC, fun p hp => I.pin p (List.mem_append_left _ (h p (by simpa using hp))), I.hok, I.len⟩
theorem inv_unsuite {a : Addr} {q : List (Addr × Obj)} (I : L2.Inv (X.suite a (X.pn ++ pins)) q σ H s) (ok : X.Ok) : L2.Inv X pins σ H s :=
  ⟨ok, I.os, I.bare, I.base, I.loc, I.cell, I.free, I.freeC, fun p hp => I.pin p (List.mem_append_left _ hp), I.hok, I.len⟩
end
/-- what the clause wishes of an exception of the body; the suite's meaning is ts -/
def wTrk (K : PySem.W.Frag) (c : Value) (i : Nat) (ts : TS) (Wout : WX) (D : Ends) : WX := fun cls d σ H =>
  ∃ b, PySem.W.exmOne K cls c = some b ∧ (b = true → ∃ C dx, cls = .ref C ∧ d = some dx ∧ ∀ a, H a = none →
    ts { nx := fun σ' H' => D.nx (σ'.set i none) H', rt := D.rt, bk := fun σ' H' => D.bk (σ'.set i none) H', ct := fun σ' H' => D.ct (σ'.set i none) H' } (σ.set i (some (.ref a))) (upd H a (exq a C dx))) ∧ (b = false → Wout cls d σ H)
section
variable {X : Cx} {x n : Str} {c : Value} {i : Nat} {body suite : List Stmt} {b₀ : Stmt} {np pos pos' : Pos} {tb : WX → TS} {ts : TS} {Wout : WX}
theorem ps_try_trk (hs : X.stack = X.env :: X.outer) (hf : X.env.frame = some X.env.locals) (hex : X.ex = []) (hN : X.N.Nodup) (hi : X.N[i]? = some n) (hln : X.env.kindOf n = some .local) (hc : Names X x c) (tk : Takes X Wout)
    (hb : ∀ (W : WX) (pn : List (Addr × Obj)) (xe : Value → Shared → Prop), Takes (X.tr pn xe) W → PassesOwn (model X.prog X.w) X.A X.env xe → PSs (X.tr pn xe) body (tb W))
    (hsu : ∀ (a : Addr) (pn : List (Addr × Obj)), PSs (X.suite a pn) (b₀ :: suite) ts) :
    PS X (.Try body [.ExceptHandler (some (.Name x np)) (some n) (b₀ :: suite) pos'] [] [] pos) (fun D σ H => tb (wTrk X.K c i ts Wout D) D σ H) := by
  refine ⟨fun pins s σ H D I h => ?_⟩
  have ok := I.ok
  have hfr : X.A.frames = some (X.env :: X.outer) := by rw [ok.frames, hs]
  have hloc : L2.Loc X.env.scope n := .inl hln
  refine wpAny_Try_except (wpAny_mono ((hb (wTrk X.K c i ts Wout D) (X.pn ++ pins) (fun e s₁ => wpAny (model X.prog X.w) X.A (noteFrame e X.env) (fun _ s₂ => wpAny (model X.prog X.w) X.A (setFlight e none) (fun _ s₃ =>
    wpAny (model X.prog X.w) X.A (handleBy e X.env [.ExceptHandler (some (.Name x np)) (some n) (b₀ :: suite) pos']) (SP X pins D) X.xe s₃) X.xe s₂) X.xe s₁) (fun u s' xx => ?_) PassesOwn.looking).run [] s σ H D (I.toTry _) h) (fun f s1 hsp => ?_) (fun e s1 he => he))
  · obtain ⟨a, B, sI, pins', σ', H', cls, d, rfl, J', nb, up, sky, na, os, ag, b, hb1, hyes, hno⟩ := xx
    have J : L2.Inv X pins σ' H' sI := J'.ofTry ok
    have sky' : Sky B (X.env :: X.outer) a (Zc cls d) X.env.locals s'.heap := by rw [← hs]; exact sky
    show wpAny _ X.A (noteFrame (.ref a) X.env) _ _ _
    refine Sky.land Zc.steady hfr hf sky' fun h3 fl3 up3 => ?_
    have J3 : L2.Inv X pins σ' H' { s' with heap := h3 } := J.landed nb fl3.1 (up.trans up3) os ag
    obtain ⟨oe3, vs3, he3, hz3, hd3⟩ := fl3.there
    have nfr : a ∉ frs (X.env :: X.outer) := fun hm => by
      obtain ⟨_, o', e', hnf⟩ := fl3.2.2.1.mem hm
      rw [he3] at e'; cases e'
      exact hnf _ hd3
    have nL : a ≠ X.env.locals := fun z => nfr (List.mem_filterMap.mpr ⟨X.env, List.mem_cons_self, by rw [hf, z]⟩)
    have nF : a ∉ X.fs := fun hm => by
      obtain ⟨e, he, q⟩ := List.mem_filterMap.mp hm
      exact nfr (List.mem_filterMap.mpr ⟨e, List.mem_cons_of_mem _ he, q⟩)
    have aI : sI.heap.get? a = none := by
      cases q : sI.heap.get? a with
      | none => rfl
      | some o =>
        have z := nb a o q (by rw [hs]; exact nfr)
        rw [fl3.2.1] at z; cases z
    have a0 : X.s_0.heap.get? a = none := by
      cases q : X.s_0.heap.get? a with
      | none => rfl
      | some o =>
        obtain ⟨o', z⟩ := J.base.there a o q (by rw [hex]; simp)
        rw [aI] at z; cases z
    have nc : ∀ x c, X.env.cells.lookup x = some c → c ≠ a := fun x c e z => by
      obtain ⟨v, hv⟩ := J.cell x c e
      obtain ⟨w1, w2, _⟩ := hv
      rw [z, aI] at w2; cases w2
    have npn : ∀ p ∈ X.pn ++ pins, p.1 ≠ a := fun p hp z => by
      have := (J.pin p hp).1
      rw [z, aI] at this; cases this
    have S3 := J3.suite he3 hd3 na nL nF
    refine wpAny_handleBy_cons (codeAny_handlers_test ?_) (by intro q; cases q)
    have LT : PySem.W.Looks (model X.prog X.w) h3 (typeOf (.ref a)) cls := fun A Q E s k q => wpAny_typeOf_ref (k _ _ he3) (by rw [hz3.1]; exact q)
    have LM := PySem.W.exm_one (M := model X.prog X.w) (J3.kIn) LT hb1
    have test : ∀ {Q : Value → Shared → Prop} {E : Value → Shared → Prop}, Q c { s' with heap := h3 } → wpAny (model X.prog X.w) (X.A.mark (some (.ref a))) (eval (.Name x np) X.env) Q E { s' with heap := h3 } := fun {Q E} q => by
      obtain ⟨hg, hdbg, hm | ⟨hm, hv, hnn⟩⟩ := hc
      · exact ld_glob (X := X.suite a ((a, oe3) :: (X.pn ++ pins))) S3 hg hm q hdbg
      · exact ld_blt (X := X.suite a ((a, oe3) :: (X.pn ++ pins))) S3 hg hm hv q hnn hdbg
    refine test (LM.here ?_)
    cases b with
    | true =>
      obtain ⟨C, dx, rfl, rfl, hnx⟩ := hyes rfl
      refine codeAny_handlers_suite_as (HandSPX.lands_againZ fl3 fun h4 fl4 up4 => ?_)
      have J4 : L2.Inv X pins σ' H' { s' with heap := h4 } := J.landed nb fl4.1 ((up.trans up3).trans up4) os ag
      obtain ⟨oe4, vs4, he4, hz4, hd4⟩ := fl4.there
      have S4 := J4.suite he4 hd4 na nL nF
      refine store_ok (X := X.suite a ((a, oe4) :: (X.pn ++ pins))) (v := .ref a) S4 hN hi hloc rfl (fun s5 S5 => ?_) (.inr hln)
      have e5 := (S5.pin (a, oe4) (List.mem_append_left _ List.mem_cons_self)).1
      have S6 : L2.Inv (X.suite a (X.pn ++ pins)) [] _ H' s5 := inv_fewer S5 fun p hp => List.mem_cons_of_mem _ hp
      have S7 := inv_track (X := X.suite a (X.pn ++ pins)) S6 na a0 (exq_ok e5 hz4 hd4) nL nc (fun p hp => npn p (by simpa using hp))
      refine wpAny_mono ((hsu a (X.pn ++ pins)).run [] s5 _ _ _ S7 (hnx a na)) (fun f s6 hsp => ?_) (fun _ _ z => False.elim z)
      have end_ : ∀ {σ6 : L2.St} {H6 : Hp} {Q : Shared → Prop}, L2.Inv (X.suite a (X.pn ++ pins)) [] σ6 H6 s6 → (∀ s7, L2.Inv X pins (σ6.set i none) H6 s7 → Q s7) →
          wpAny (model X.prog X.w) X.A (do bindName X.env n .none; unbindBehindTheSuite X.env n pos') (fun _ s7 => Q s7) X.xe s6 := fun {σ6 H6 Q} S6 hq => gone_ok (inv_unsuite S6 ok) hN hi hln hq
      cases f with
      | next =>
        obtain ⟨σ6, H6, S6, q6⟩ := hsp
        exact end_ S6 fun s7 J7 => ⟨_, _, J7, q6⟩
      | brk =>
        obtain ⟨σ6, H6, S6, q6⟩ := hsp
        exact end_ S6 fun s7 J7 => ⟨_, _, J7, q6⟩
      | cont =>
        obtain ⟨σ6, H6, S6, q6⟩ := hsp
        exact end_ S6 fun s7 J7 => ⟨_, _, J7, q6⟩
      | ret u =>
        obtain ⟨v6, σ6, H6, S6, r6, q6⟩ := hsp
        exact end_ S6 fun s7 J7 => ⟨_, _, _, J7, r6, q6⟩
    | false =>
      show wpAny _ X.A (handleBy (.ref a) X.env []) _ _ _
      refine wpAny_handleBy_nil ?_
      obtain ⟨k1, k2, k3, oe, vs, T, oT, ts', he, hz, hd, h1, hr⟩ := id fl3
      unfold PySem.passOn
      refine wpAny_bind (wpAny_field he hd h1 ?_)
      rw [if_neg (show ¬ ((Value.ref T == Value.none) = true) from by simp)]
      have fin : wpAny (model X.prog X.w) X.A (setFlight (.ref a) X.env.frame) (fun _ s4 => wpAny (model X.prog X.w) X.A (throw (.ref a) : Sem Flow) (SP X pins D) X.xe s4) X.xe { s' with heap := h3 } := by
        rw [hf]
        refine HandSPX.setFlight_upZ fl3 fun h4 hh4 up4 => wpAny_throw (tk _ _ ?_)
        exact ⟨a, B, sI, pins, σ', H', cls, d, rfl, J, nb, (up.trans up3).trans up4, .inr (.inr (by rw [hs]; exact hh4)), na, os, ag, hno rfl⟩
      first
        | exact wpAny_bind (wpAny_pure (wpAny_bind fin))
        | exact wpAny_bind fin
  · cases f with
    | next =>
      obtain ⟨σ', H', J', q⟩ := hsp
      exact wpAny_execs_nil ⟨σ', H', J'.ofTry ok, q⟩
    | brk =>
      obtain ⟨σ', H', J', q⟩ := hsp
      exact ⟨σ', H', J'.ofTry ok, q⟩
    | cont =>
      obtain ⟨σ', H', J', q⟩ := hsp
      exact ⟨σ', H', J'.ofTry ok, q⟩
    | ret u =>
      obtain ⟨v, σ', H', J', r, q⟩ := hsp
      exact ⟨v, σ', H', J'.ofTry ok, r, q⟩
end
/-- try: body; except C as n: suite -/
def gTryH (K : PySem.W.Frag) (cv : Value) (i : Nat) (gb gs : GS) : GS := fun D ρ h => gb { D with ex := fun C fs vs ρ1 h1 => ∃ b, PySem.W.exmOne K (.ref C) cv = some b ∧
  (b = true → gs { nx := fun ρ2 h2 => D.nx (ρ2.set i none) h2, rt := D.rt, bk := fun ρ2 h2 => D.bk (ρ2.set i none) h2, ct := fun ρ2 h2 => D.ct (ρ2.set i none) h2 } (ρ1.set i (some (.ref h1.length))) (h1 ++ [.exc C fs vs])) ∧ (b = false → D.ex C fs vs ρ1 h1) } ρ h
theorem takes_never {X : Cx} : Takes X (fun _ _ _ _ => False) := fun u s' ⟨_, _, _, _, _, _, _, _, _, _, _, _, _, _, _, _, w⟩ => w.elim
theorem mstryH {X : Cx} {x n : Str} {cv : Value} {body suite : List Stmt} {b₀ : Stmt} {np pos pos' : Pos} {gb gs : GS} (i : Nat) (hc : Names X x cv) (hN : X.N.Nodup)
    (hb : ∀ (pn : List (Addr × Obj)) (xe : Value → Shared → Prop), PassesOwn (model X.prog X.w) X.A X.env xe → MB (X.tr pn xe) body gb) (hsu : ∀ (a : Addr) (pn : List (Addr × Obj)), MB (X.suite a pn) (b₀ :: suite) gs) (hi : X.N[i]? = some n := by rfl) (hs : X.stack = X.env :: X.outer := by rfl) (hf : X.env.frame = some X.env.locals := by rfl) (hex : X.ex = [] := by rfl)
    (hln : X.env.kindOf n = some .local := by rfl) :
    MS X (.Try body [.ExceptHandler (some (.Name x np)) (some n) (b₀ :: suite) pos'] [] [] pos) (gTryH X.K cv i gb gs) := by
  refine ⟨_, ps_try_trk (tb := tbK X.K gb) (ts := tbK X.K gs fun _ _ _ _ => False) hs hf hex hN hi hln hc takes_wof (fun W pn xe tk hp => pss_tb (hb pn xe hp) tk) (fun a pn => pss_tb (X := X.suite a pn) (hsu a pn) takes_never), fun m h H ρ σ D E rh re hg k => ?_⟩
  refine ⟨m, h, ρ, _, rh, re, hg, k.nx, k.rt, k.bk, k.ct, fun m' H' h' ρ1 σ1 C fs vs dx ys ev r1 re1 q z1 z2 z3 z4 => ?_⟩
  obtain ⟨b, hb1, hy, hn⟩ := q
  refine ⟨b, hb1, fun e => ⟨C, dx, rfl, rfl, fun a na => ?_⟩, fun e => k.ex m' H' h' ρ1 σ1 C fs vs dx ys ev r1 re1 (hn e) z1 z2 z3 z4⟩
  have el := Ev.laid (K := X.K) (m := m') (o := exq a C dx) na
  have p : Pst X.K m' H' m' (upd H' a (exq a C dx)) h' (.new (.exc C fs vs)) (.ref a) := ⟨el, r1.laid na, ⟨a, rfl, r1.fresh na, dx, ys, upd_same, by rw [upd_ne (ne_of_none z1 na)]; exact z1, z2, z3, z4.mono el⟩, fun o b _ z => by
    cases z
    exact na⟩
  refine put_ok (QV := fun v h2 => gs { nx := fun ρ2 h2 => D.nx (ρ2.set i none) h2, rt := D.rt, bk := fun ρ2 h2 => D.bk (ρ2.set i none) h2, ct := fun ρ2 h2 => D.ct (ρ2.set i none) h2 } (ρ1.set i (some v)) h2) p (hy e) fun m2 h2 v e2 r2 t2 pre q2 => ?_
  have e0 := ev.trans e2
  exact ⟨m2, h2, _, _, r2, (re1.mono e2).set t2, q2, fun m3 H3 h3 ρ3 σ3 e3 r3 re3 q3 => k.nx m3 H3 h3 _ _ (e0.trans e3) r3 re3.unset q3, fun m3 H3 h3 r x p3 q3 => k.rt m3 H3 h3 r x (p3.from_ e0 r2) q3,
    fun m3 H3 h3 ρ3 σ3 e3 r3 re3 q3 => k.bk m3 H3 h3 _ _ (e0.trans e3) r3 re3.unset q3, fun m3 H3 h3 ρ3 σ3 e3 r3 re3 q3 => k.ct m3 H3 h3 _ _ (e0.trans e3) r3 re3.unset q3, fun _ _ _ _ _ _ _ _ _ _ _ _ _ q3 => q3.elim⟩
section
variable {K : PySem.W.Frag} {ρ : VL.Env} {h : VH} {gb gs g2 : GS} {N bk ct : VL.Env → VH → Prop} {rt : R → VH → Prop} {ex : XV} {cv : Value} {i : Nat}
theorem t_tryH (q : gb ⟨N, rt, bk, ct, fun C fs vs ρ1 h1 => ∃ b, PySem.W.exmOne K (.ref C) cv = some b ∧ (b = true → gs ⟨fun ρ2 h2 => N (ρ2.set i none) h2, rt, fun ρ2 h2 => bk (ρ2.set i none) h2, fun ρ2 h2 => ct (ρ2.set i none) h2, fun _ _ _ _ _ => False⟩ (ρ1.set i (some (.ref h1.length))) (h1 ++ [.exc C fs vs])) ∧ (b = false → ex C fs vs ρ1 h1)⟩ ρ h) : gTryH K cv i gb gs ⟨N, rt, bk, ct, ex⟩ ρ h := q
theorem t_seqTH (q : gTryH K cv i gb gs ⟨fun ρ' h' => g2 ⟨N, rt, bk, ct, ex⟩ ρ' h', rt, bk, ct, ex⟩ ρ h) : gSeq (gTryH K cv i gb gs) g2 ⟨N, rt, bk, ct, ex⟩ ρ h := ⟨_, q, fun _ _ z => z⟩
end
/-! ### xs.count(v) of a list of flat things -/
section
variable {X : Cx} {a b : Expr} {ga gb : GE} {pos : Pos}
def rLcntF (K : PySem.W.Frag) : V → List V → Hp → VK → Prop := fun x xs H Q => ∃ (p : Addr) (ys : List V) (y : V), x = .ref p ∧ xs = [y] ∧ SqL K H p ys ∧ flatV y = true ∧ ys.all flatV = true ∧ Q (.int ((ys.countP fun z => eqV z y : Nat) : Int)) H
theorem mt_lcntF : MtR X "list.count" (rLcntF X.K) := by
  intro pins s σ H x xs v us Q I rx rs hw
  obtain ⟨p, ys, y, rfl, rfl, hq, fy, fys, q⟩ := hw
  cases rx
  obtain ⟨u, rfl, ru⟩ := vals1 rs
  obtain ⟨its, r, ⟨⟨cls, dd, data, sl⟩, n, ho, hc, hdn, hd⟩, hlen⟩ := I.list hq
  simp only at hc hd
  subst hc hd
  refine call_meets PySem.F.slot_list_count ⟨_, ho, rfl⟩ PySem.F.entry_list_count (PySem.F.args_list_count_2 _ _) (SeqAt.list_countAt p its.toArray n dd sl u (eqU y)) ⟨ho, fun w hw => mem_eqAt ru fy r fys w (by simpa using hw), ⟨V.int ((its.toArray.toList.countP (eqU y) : Nat) : Int), H, I.tok _, ⟨_, rfl⟩, ?_⟩⟩
  show Q (.int ((its.countP (eqU y) : Nat) : Int)) H
  rw [cnt_eqU r fys]; exact q
def kLcntF (gb : GE) (ρ : VL.Env) (Q : R → VH → Prop) (r : R) (h1 : VH) : Prop := ∃ n xs, r = .val (.ref n) ∧ h1[n]? = some (.lst xs) ∧ gb ρ h1 fun s h2 => ∃ v : VV, s = .val v ∧ flatVV v = true ∧ xs.all flatVV = true ∧ h2[n]? = some (.lst xs) ∧ Q (.val (.int ((xs.countP fun z => eqF z v : Nat) : Int))) h2
def gLcntF (ga gb : GE) : GE := fun ρ h Q => ga ρ h fun r h1 => kLcntF gb ρ Q r h1
theorem mlcntF {apos : Pos} (ha : MX X a ga) (hb : MX X b gb) (h1 : attributeBase a "count" X.env (eval a X.env) = eval a X.env := by rfl)
    (h2 : (((backTo pos (starEach [b] X.env)).all (fun x => !x.1) && (backToKw pos (keywordEach [] X.env)).all (fun x => x.1.isSome)) && decide (([b].length + ([] : List Keyword).length + if ([] : List Keyword).isEmpty = true then 0 else 1) < 30)) = true := by rfl)
    (h3 : (apos.endLine == pos.line) = true := by rfl) (hs : starEach [b] X.env = [(false, eval b X.env)] := by rfl) : MX X (.Call (.Attribute a "count" apos) [b] [] pos) (gLcntF ga gb) := by
  obtain ⟨t, a1, a2⟩ := ha.ex
  obtain ⟨u, b1, b2⟩ := hb.ex
  refine ⟨_, pe_bm PySem.F.plainAttrs_list PySem.F.slot_list_count PySem.F.type_list_count mt_lcntF a1 (pa_cons b1 pa_nil hs) h1 h2 h3 hs rfl, fun m h H ρ σ QV Q rh re hg k => a2 m h H ρ σ _ _ rh re hg fun m1 H1 h1 r x p q => ?_⟩
  obtain ⟨n, xs, rfl, e0, q⟩ := q
  obtain ⟨pa, ys0, rfl, h20, _⟩ := lstOf_ok p.rh p.rr (show lstOf h1 (.val (.ref n)) = some xs by simp only [lstOf, e0])
  refine ⟨.inl ⟨rfl, ys0, .of h20⟩, b2 m1 h1 H1 ρ σ _ _ p.rh (re.mono p.ev) q fun m3 H3 h3 s y p3 q3 => ?_⟩
  obtain ⟨v, rfl, fv, fx, e3, q3⟩ := q3
  obtain ⟨pb, ys, e, h4, r2⟩ := lstOf_ok p3.rh (show RelR X.K m3 H3 (.val (.ref n)) (.ref pa) from p.rr.mono p3.ev) (show lstOf h3 (.val (.ref n)) = some xs by simp only [lstOf, e3])
  cases e
  refine ⟨pa, ys, y, rfl, rfl, .of h4, flat_ok p3.rr fv, (any_ok p3.rr fv r2 fx).1, ?_⟩
  rw [cnt_ok p3.rr fv r2 fx]
  exact k _ _ _ _ _ ((Pst.val p3.rh .int).from_ (p.ev.trans p3.ev) p3.rh) q3
theorem t_lcntF {ρ : VL.Env} {h : VH} {Q : R → VH → Prop} (q : ga ρ h fun r h1 => kLcntF gb ρ Q r h1) : gLcntF ga gb ρ h Q := q
theorem t_klcntF {ρ : VL.Env} {h : VH} {Q : R → VH → Prop} {n : Nat} {xs : List VV} (e : h[n]? = some (.lst xs)) (f : xs.all flatVV = true) (q : gb ρ h fun s h2 => ∃ v : VV, s = .val v ∧ flatVV v = true ∧ xs.all flatVV = true ∧ h2[n]? = some (.lst xs) ∧ Q (.val (.int ((xs.countP fun z => eqF z v : Nat) : Int))) h2) : kLcntF gb ρ Q (.val (.ref n)) h := ⟨n, xs, rfl, e, q⟩
end
end VL

set_option autoImplicit false
set_option maxHeartbeats 1000000
/-! VL81: list(reversed(xs)); t.count(v) of a tuple. -/
namespace RT
open PySem PySem.Spec PyProof.Rows L2
section
variable {prog : Program} {w : World} {A : Around} {E : Value → Shared → Prop} {s : Shared}
theorem ext_rev {R : Result → Shared → Prop} {it l : Addr} {items : Array Value} (hh : A.handled = none) (hit : s.heap.IsRevIter it l ((items.size : Int) - 1)) (hl : s.heap.IsList l items) (hne : l ≠ it) (hn : items.size ≤ sizeLine) (S : Addr) (res : Value) (c₀ : Nat) (hS : s.heap.get? S = some { cls := .type "list", data := .seq #[] c₀ }) (hSl : S ≠ l)
    (hR : ∀ (h' : Heap) (tk : Nat) (acc' : Array Value) (c' : Nat), (∀ b o, b ≠ S → b ≠ it → s.heap.get? b = some o → h'.get? b = some o) → h'.get? S = some { cls := .type "list", dict := none, data := .seq acc' c', slots := #[] } → ItemsOf (fun i v => items[items.size - 1 - i]? = some v) acc' items.size → R (.ok (.ret res)) { s with heap := h', toks := tk }) :
    wpAny (model prog w) A.in1 (Builtin.List.listExtendWith (.ref S) (.ref it) res)
      (fun fin s' => match fin with | .done f => R (.ok f) s' | .again c' => c'.quiet = true ∧ codeAny (model prog w) A c' R s') (fun e s' => R (.error e) s') s := by
  have W := (Walks.listRev (prog := prog) (w := w) (A := A.in1) hh it l hne items).toS
  have hSi : S ≠ it := fun e => by
    obtain ⟨o, ho, h1, h2⟩ := hit
    rw [← e, hS] at ho
    cases ho
    simp at h1
  have hSf : S ∉ [it, l] := by simp only [List.mem_cons, List.not_mem_nil, or_false, not_or]; exact ⟨hSi, hSl⟩
  have hT : s.TypeIs (.ref it) "list_reverseiterator" := Heap.IsRevIter.typeIs (s := s) hit
  have h1 : Builtin.List.listSameRef (.ref S) (.ref it) = false := by simp [Builtin.List.listSameRef, hSi]
  unfold Builtin.List.listExtendWith
  refine wpAny_bind (wpAny_typeOf hT ?_)
  rw [if_neg (by rw [h1]; decide)]
  refine wpAny_bind (wpAny_pyIter_revIter (s := s) hit ?_)
  refine wpAny_bind (wpAny_holding ?_)
  unfold Builtin.List.listLengthHint
  refine wpAny_bind (wpAny_specialOf hT nolen_lri ?_)
  show wpAny _ A.in1 (specialOf (Value.ref it) (Str.ofString "__length_hint__") >>= _) _ _ _
  refine wpAny_bind (wpAny_specialOf hT hint_lri ?_)
  generalize hid : ("list_reverseiterator.__length_hint__" : String) = id0
  wp_delta
  rw [show splitId id0 = some ("list_reverseiterator", "__length_hint__") from by subst hid; decide +kernel]
  subst hid
  refine wpAny_bind (wpAny_isInstance (b := true) hT (by rw [isSubtype_type]; kernel_rfl) ?_)
  refine wpAny_pure ?_
  rw [if_neg (by decide)]
  have e0 : ((items.size : Nat) : Int) - 1 - ((0 : Nat) : Int) = (items.size : Int) - 1 := by omega
  refine wpAny_pure ⟨plainId_quiet F.plain_extend_loop _, codeAny_extend_loopS W hn S hSf res items.size 0 _ #[] c₀ rfl (Nat.zero_le _) ⟨Nat.zero_le _, by rw [e0]; exact hit, hl⟩ hS (ItemsOf.nil _) fun s' acc' c' hm hS' hacc => ?_⟩
  rw [Moved.eq_with hm]
  refine hR s'.heap s'.toks acc' c' (fun b o hb hb2 e => hm.heap b o (fun hmem => ?_) e) hS' hacc
  rcases List.mem_cons.mp hmem with e' | hmem
  · exact hb e'
  · exact hb2 (List.mem_singleton.mp hmem)
theorem init_rev {R : Result → Shared → Prop} {it l : Addr} {items : Array Value} (hh : A.handled = none) (hit : s.heap.IsRevIter it l ((items.size : Int) - 1)) (hl : s.heap.IsList l items) (hne : l ≠ it) (hn : items.size ≤ sizeLine) (S : Addr) (hS : s.heap.get? S = some { cls := .type "list", data := .seq #[] }) (hSl : S ≠ l)
    (hR : ∀ (h' : Heap) (tk : Nat) (acc' : Array Value) (c' : Nat), (∀ b o, b ≠ S → b ≠ it → s.heap.get? b = some o → h'.get? b = some o) → h'.get? S = some { cls := .type "list", dict := none, data := .seq acc' c', slots := #[] } → ItemsOf (fun i v => items[items.size - 1 - i]? = some v) acc' items.size → R (.ok (.ret .none)) { s with heap := h', toks := tk }) :
    wpAny (model prog w) A.in1 (Builtin.«list.__init__» ⟨[.ref S, .ref it], []⟩)
      (fun fin s' => match fin with | .done f => R (.ok f) s' | .again c' => c'.quiet = true ∧ codeAny (model prog w) A c' R s') (fun e s' => R (.error e) s') s := by
  have hSi : S ≠ it := fun e => by
    obtain ⟨o, ho, h1, h2⟩ := hit
    rw [← e, hS] at ho
    cases ho
    simp at h1
  show wpAny _ _ (do let old ← Builtin.List.listItems (.ref S); Builtin.List.listUpdate (.ref S) (fun _ => #[]); letGo old.toList.reverse; Builtin.List.listExtendWith (.ref S) (.ref it) .none) _ _ s
  refine wpAny_bind ?_
  unfold Builtin.List.listItems
  refine wpAny_bind (wpAny_seqItems hS rfl (wpAny_pure ?_))
  show wpAny _ _ (updateSeq S (fun _ => #[]) >>= fun _ => letGo (#[] : Array Value).toList.reverse >>= fun _ => Builtin.List.listExtendWith (.ref S) (.ref it) .none) _ _ s
  refine wpAny_bind (wpAny_updateSeq hS rfl ?_)
  have hS2 := Heap.get?_update_self (Obj.mapSeq (fun _ => (#[] : Array Value))) hS rfl
  have oth : ∀ b o, b ≠ S → s.heap.get? b = some o → (s.heap.update S (Obj.mapSeq (fun _ => (#[] : Array Value)))).get? b = some o := fun b o hb e => (Heap.get?_update_other _ _ (Ne.symm hb)).trans e
  refine wpAny_bind (wpAny_letGo ?_)
  refine ext_rev hh (hit.at fun o e => oth it o (Ne.symm hSi) e) (hl.at fun o e => oth l o (Ne.symm hSl) e) hne hn S .none _ hS2 hSl fun h' tk acc' c' hk hS' hacc => ?_
  exact hR h' tk acc' c' (fun b o hb hb2 e => hk b o hb hb2 (oth b o hb e)) hS' hacc
theorem call_list_rev {it l : Addr} {items : Array Value} {Q : Value → Shared → Prop} (hh : A.handled = none) (hit : s.heap.IsRevIter it l ((items.size : Int) - 1)) (hl : s.heap.IsList l items) (hne : l ≠ it) (hn : items.size ≤ sizeLine)
    (hQ : ∀ (h' : Heap) (tk : Nat) (acc : Array Value) (c : Nat), (∀ b o, b ≠ it → s.heap.get? b = some o → h'.get? b = some o) → h'.get? s.heap.objs.size = some { cls := .type "list", dict := none, data := .seq acc c, slots := #[] } → ItemsOf (fun i v => items[items.size - 1 - i]? = some v) acc items.size → Q (.ref s.heap.objs.size) { s with heap := h', toks := tk }) :
    wpAny (model prog w) A (call (.type "list") [.ref it]) Q E s := by
  refine callType_codes (Q₁ := fun obj s₁ => obj = .ref s.heap.objs.size ∧ s₁ = { s with heap := s.heap.push { cls := .type "list", data := .seq #[] } }) F.called_list (F.typeCall_list_1 _) F.entry_list_init
    (code_list_new _ ⟨rfl, rfl⟩) fun obj s₁ h₁ => ?_
  obtain ⟨rfl, rfl⟩ := h₁
  have hS : (s.heap.push { cls := .type "list", data := .seq #[] }).get? s.heap.objs.size = some { cls := .type "list", data := .seq #[] } := Heap.get?_push_size _ rfl
  obtain ⟨ol, hol, _⟩ := id hl
  have hSl : s.heap.objs.size ≠ l := Nat.ne_of_gt (Heap.lt_size hol)
  refine ⟨⟨_, hS, rfl⟩, F.args_list_init_2 _ _, init_rev (A := A.in1) hh (hit.at fun o e => Heap.get?_push_of_some _ e) (hl.push _) hne hn _ hS hSl fun h' tk acc' c' hk hS' hacc => ?_⟩
  exact ⟨rfl, hQ h' tk acc' c' (fun b o hb e => hk b o (Nat.ne_of_lt (Heap.lt_size e)) hb (Heap.get?_push_of_some _ e)) hS' hacc⟩
end
section
variable {X : Cx}
/-- list(reversed(x)), x a list: a new list -/
def tLstRev (K : PySem.W.Frag) (te : TE) : TE := fun σ H Q => te σ H fun v H1 => ∃ (a : Addr) (xs : List V), v = .ref a ∧ SqL K H1 a xs ∧ ∀ q, H1 q = none → Q (.ref q) (upd H1 q (.lst xs.reverse))
theorem pe_lstRev {e : Expr} {te : TE} {p p2 pos pos2 : Pos} (hc : X.calm = true) (hex : X.ex = []) (hg : Gl X "list") (hm : X.mg "list" = none) (hg2 : Gl X "reversed") (hm2 : X.mg "reversed" = none) (he : PE X e te)
    (hs : starEach [e] X.env = (false, eval e X.env) :: starEach [] X.env := by rfl)
    (hs2 : starEach [.Call (.Name "reversed" p2) [e] [] pos2] X.env = (false, eval (.Call (.Name "reversed" p2) [e] [] pos2) X.env) :: starEach [] X.env := by rfl) :
    PE X (.Call (.Name "list" p) [.Call (.Name "reversed" p2) [e] [] pos2] [] pos) (tLstRev X.K te) := by
  refine ⟨fun pins s σ H Q I h => ?_⟩
  refine Call_ (ld_blt I hg hm boot_list (PyProof.Rows.callWith_type1 (args_cons (Call_ (ld_blt I hg2 hm2 PyProof.Rows.boot_reversed (PyProof.Rows.callWith_type1 (args_cons (thn (he.run pins s σ H _ I h) fun u s1 ⟨v, H1, I1, r1, q1⟩ => args_nil ?_) hs) hs rfl))) hs2) hs2 rfl))
  obtain ⟨a, xs, ev, hq, q⟩ := q1
  subst ev
  obtain rfl : u = Value.ref a := r1
  obtain ⟨its, rv, p', hz⟩ := I1.list hq
  refine call_reversed_list p'.isList (args_nil ?_)
  have k0 : ∀ b o, s1.heap.get? b = some o → (s1.heap.push (revObj a ((its.toArray.size : Int) - 1))).get? b = some o := fun b o e => Heap.get?_push_of_some _ e
  have I2 : Inv X pins σ H1 { s1 with heap := s1.heap.push (revObj a ((its.toArray.size : Int) - 1)) } := I1.kept (t' := s1.toks) k0
  obtain ⟨f0, f1, f2, f3, f4, f5⟩ := I1.fpOk (H' := H1) (b := s1.heap.objs.size) (Nat.le_refl _) (I1.hok.fresh (Nat.le_refl _))
  have hl := p'.isList
  obtain ⟨ol, hol, _⟩ := id hl
  have hne : a ≠ s1.heap.objs.size := Nat.ne_of_lt (Heap.lt_size hol)
  have hn : its.toArray.size ≤ sizeLine := by rw [List.size_toArray, ← rv.length]; exact hz
  refine call_list_rev (s := { s1 with heap := s1.heap.push (revObj a ((its.toArray.size : Int) - 1)) }) (I1.ok.hd hc) ⟨_, Heap.get?_push_size _ rfl, rfl, rfl⟩ (hl.push _) hne hn fun h' tk acc c hk hS hi => ?_
  have I3 : Inv X pins σ H1 { s1 with heap := h', toks := tk } := I2.turned (t' := tk) (fun b o hb e => hk b o hb e) f0 f1 f3 f4 f5
  generalize hSS : (s1.heap.push (revObj a ((its.toArray.size : Int) - 1))).objs.size = S at hS ⊢
  have old : ∀ b o, (s1.heap.push (revObj a ((its.toArray.size : Int) - 1))).get? b = some o → b ≠ S := fun b o e => by rw [← hSS]; exact Nat.ne_of_lt (Heap.lt_size e)
  have aI : (s1.heap.push (revObj a ((its.toArray.size : Int) - 1))).get? S = none := by
    cases q : (s1.heap.push (revObj a ((its.toArray.size : Int) - 1))).get? S with
    | none => rfl
    | some o => exact absurd rfl (old _ _ q)
  have nS : H1 S = none := I2.hok.fresh (by show (s1.heap.push (revObj a ((its.toArray.size : Int) - 1))).objs.size ≤ S; rw [hSS]; exact Nat.le_refl _)
  have a0 : X.s_0.heap.get? S = none := by
    cases q : X.s_0.heap.get? S with
    | none => rfl
    | some o =>
      obtain ⟨o', z⟩ := I2.base.there S o q (by rw [hex]; simp)
      rw [aI] at z; cases z
  have nL : S ≠ X.env.locals := fun z => by
    obtain ⟨m, hns, _⟩ := I2.loc
    obtain ⟨o, _, _, ho, _⟩ := hns
    exact old _ _ ho z.symm
  have nc : ∀ x c, X.env.cells.lookup x = some c → c ≠ S := fun x c e z => by
    obtain ⟨v, hv⟩ := I2.cell x c e
    obtain ⟨w1, w2, _⟩ := hv
    exact old _ _ w2 z
  have npn : ∀ p ∈ X.pn ++ pins, p.1 ≠ S := fun p hp z => old _ _ (I2.pin p hp).1 z
  refine ⟨.ref S, upd H1 S (.lst xs.reverse), VL.inv_track I3 nS a0 ⟨by rw [List.length_reverse]; exact hz, acc.toList, c, vals_rev rv hi, ?_⟩ nL nc npn, rfl, q _ nS⟩
  rw [Array.toArray_toList]
  exact hS
end
end RT
namespace VL
open PySem L2 PySem.Spec
section
variable {X : Cx} {a : Expr} {ga : GE}
theorem mlstrev {p p2 pos pos2 : Pos} (hl : X.mg "list" = none) (hm : X.mg "reversed" = none) (ha : MX X a ga) (hg : Gl X "list" := by rfl) (hg2 : Gl X "reversed" := by rfl) (hc : X.calm = true := by rfl) (hex : X.ex = [] := by rfl)
    (hs : starEach [a] X.env = (false, eval a X.env) :: starEach [] X.env := by rfl)
    (hs2 : starEach [.Call (.Name "reversed" p2) [a] [] pos2] X.env = (false, eval (.Call (.Name "reversed" p2) [a] [] pos2) X.env) :: starEach [] X.env := by rfl) : MX X (.Call (.Name "list" p) [.Call (.Name "reversed" p2) [a] [] pos2] [] pos) (gRev ga) := by
  obtain ⟨t, a1, a2⟩ := ha.ex
  refine ⟨_, RT.pe_lstRev hc hex hg hl hg2 hm a1 hs hs2, fun m h H ρ σ QV Q rh re hg k => a2 m h H ρ σ _ _ rh re hg fun m1 H1 h1 r x p q => ?_⟩
  split at q
  · rename_i xs e
    obtain ⟨pa, ys, rfl, h2, r2⟩ := lstOf_ok p.rh p.rr e
    exact ⟨pa, ys, rfl, .of h2, fun l hl => k m1 _ h1 _ _ ((Pst.lst p.rh hl r2.reverse).from_ p.ev p.rh) q⟩
  · exact q.elim
end
/-! ### t.count(v) of a tuple -/
section
variable {X : Cx} {a b : Expr} {ga gb : GE} {pos : Pos}
def rTcntR (K : PySem.W.Frag) : V → List V → Hp → VK → Prop := fun x xs H Q => ∃ (p : Addr) (ys : List V) (y : V), x = .ref p ∧ xs = [y] ∧ SqT K H p ys ∧ flatV y = true ∧ ys.all flatV = true ∧ Q (.int ((ys.countP fun z => eqV z y : Nat) : Int)) H
theorem mt_tcntR : MtR X "tuple.count" (rTcntR X.K) := by
  intro pins s σ H x xs v us Q I rx rs hw
  obtain ⟨p, ys, y, rfl, rfl, hq, fy, fys, q⟩ := hw
  cases rx
  obtain ⟨u, rfl, ru⟩ := vals1 rs
  obtain ⟨its, r, ⟨⟨cls, dd, dt, sl⟩, ho, hc, n, hd⟩, _⟩ := I.tuple hq
  simp only at hc hd
  subst hc hd
  refine call_meets PySem.F.slot_tuple_count ⟨_, ho, rfl⟩ PySem.F.entry_tuple_count (PySem.F.args_tuple_count_2 _ _) (SeqAt.tuple_countAt p its.toArray n dd sl u (eqU y)) ⟨ho, fun w hw => mem_eqAt ru fy r fys w (by simpa using hw), ⟨V.int ((its.toArray.toList.countP (eqU y) : Nat) : Int), H, I.tok _, ⟨_, rfl⟩, ?_⟩⟩
  show Q (.int ((its.countP (eqU y) : Nat) : Int)) H
  rw [cnt_eqU r fys]; exact q
end
end VL

set_option autoImplicit false
/-! VL82: dict(list of pairs), the keys tuples of ints and texts. -/
namespace L2
open PySem PySem.Spec PyProof.Rows
def mergeT (kvs more : List (List Key × V)) : List (List Key × V) := more.foldl (fun acc kv => putK acc kv.1 kv.2) kvs
theorem length_mergeT : ∀ (more kvs : List (List Key × V)), (mergeT kvs more).length ≤ kvs.length + more.length
  | [], kvs => Nat.le_refl _
  | p :: r, kvs => by
    have h1 := length_mergeT r (putK kvs p.1 p.2)
    have h2 := length_putK kvs p.1 p.2
    show (mergeT (putK kvs p.1 p.2) r).length ≤ _
    rw [List.length_cons]; omega
theorem KT.merge {H : Hp} : ∀ {more : List (List Key × V)} {rs : List (List Key × Addr × Value)} {kvs : List (List Key × V)} {xs : List (List Key × Addr × Value)}, KT H more rs → KT H kvs xs → KT H (mergeT kvs more) (storedAllH xs rs) := by
  intro more rs kvs xs r
  unfold KT at r
  induction r generalizing kvs xs with
  | nil => exact fun q => q
  | @cons a b as bs h t ih =>
    intro q
    obtain ⟨e, hb, rv⟩ := h
    have := KT.put q a.1 hb rv
    rw [show storedAllH xs (b :: bs) = storedAllH (storedH xs b.1 b.2.1 b.2.2) bs from rfl, ← e]
    exact ih this
section
variable {X : Cx}
theorem pairsT_of {pins : List (Addr × Obj)} {σ : St} {H : Hp} {s : Shared} (I : Inv X pins σ H s) : ∀ {ps : List Addr} {kvs : List (List Key × V)}, Paired (fun p (kv : List Key × V) => ∃ b, SqT X.K H p [.ref b, kv.2] ∧ H b = some (.tup (kv.1.map kV))) ps kvs →
    ∃ prs : List (List Key × Addr × Value), KT H kvs prs ∧ prs.length = ps.length ∧ ∀ (j : Nat) (q : List Key × Addr × Value), prs[j]? = some q → ∃ b : Addr, ps[j]? = some b ∧ IsTup s.heap b #[.ref q.2.1, q.2.2]
  | _, _, .nil => ⟨[], .nil, rfl, fun j q e => by simp at e⟩
  | _, _, .cons (a := p) (b := kv) h t => by
    obtain ⟨prs, r, hl, hp⟩ := pairsT_of I t
    obtain ⟨b, h, hb⟩ := h
    obtain ⟨its, rv, ht, _⟩ := I.tuple h
    obtain ⟨u, y, ei, ru, ry⟩ := vals2 rv
    subst ei
    obtain rfl : u = Value.ref b := ru
    refine ⟨(kv.1, b, y) :: prs, .cons ⟨rfl, hb, ry⟩ r, by rw [List.length_cons, List.length_cons, hl], fun j q e => ?_⟩
    cases j with
    | zero =>
      have e' : (kv.1, b, y) = q := Option.some.inj e
      subst e'
      exact ⟨p, rfl, ht⟩
    | succ j =>
      obtain ⟨b', e1, e2⟩ := hp j q (by simpa using e)
      exact ⟨b', by simpa using e1, e2⟩
theorem call_dictPT (hcalm : X.calm = true) (hu : X.A.units + 65 < cLine) : CallR X (.type "dict") (fun xs H Q => ∃ (a : Addr) (ps : List Addr) (kvs : List (List Key × V)), xs = [.ref a] ∧ SqL X.K H a (ps.map V.ref) ∧ Paired (fun p (kv : List Key × V) => ∃ b, SqT X.K H p [.ref b, kv.2] ∧ H b = some (.tup (kv.1.map kV))) ps kvs ∧
    ∀ p, H p = none → Q (.ref p) (upd H p (.dT (mergeT [] kvs)))) := by
  intro pins s σ H xs us Q I r q
  obtain ⟨a, ps, kvs, ex, hq, hp, q⟩ := q
  subst ex
  obtain ⟨u, eu, rx⟩ := vals1 r
  subst eu
  cases rx
  obtain ⟨its, rv, pl, hz⟩ := I.list hq
  have ei := refs_at rv
  subst ei
  rw [List.length_map] at hz
  obtain ⟨prs, rel, hl, hpr⟩ := pairsT_of I hp
  obtain ⟨o, n, ho, hc, hd, hdat⟩ := pl
  have hlp := Paired.length hp
  let Ts : Nat → Addr := fun j => ps.getD j 0
  have P := PairArg.list (prog := X.prog) (w := X.w) a (ps.map Value.ref).toArray Ts (prs.map fun q => (Value.ref q.2.1, q.2.2))
  have items : PairItems s.heap (ps.map Value.ref).toArray Ts (prs.map fun q => (Value.ref q.2.1, q.2.2)) := by
    refine ⟨by simp [hl], fun j k v e => ?_⟩
    rw [List.getElem?_map] at e
    obtain ⟨qq, h1, h2⟩ := Option.map_eq_some_iff.mp e
    cases h2
    obtain ⟨b, e1, e2⟩ := hpr j qq h1
    have et : Ts j = b := by show ps.getD j 0 = b; rw [List.getD_eq_getElem?_getD, e1]; rfl
    refine ⟨by rw [et]; simp [e1], .inl ?_⟩
    rw [et]
    exact e2
  have keys : ∀ x ∈ prs, (tupleKind (mixKind X.prog X.w)).is s.heap x.1 x.2.1 := fun x hx => by
    have all : ∀ {l : List (List Key × V)} {m : List (List Key × Addr × Value)}, KT H l m → ∀ x ∈ m, H x.2.1 = some (.tup (x.1.map kV)) := by
      intro l m r
      induction r with
      | nil => intro x hx; cases hx
      | cons h t ih =>
        intro x hx
        rcases List.mem_cons.mp hx with rfl | hx
        · obtain ⟨e, hb, _⟩ := h
          rw [← e]; exact hb
        · exact ih x hx
    exact key_of I.hok (all rel x hx)
  have hroom : (tupleKind (mixKind X.prog X.w)).room X.A.in1.in1 := by
    show X.A.in1.in1.units < cLine
    have e : X.A.in1.in1.units ≤ X.A.units + 65 := by first | (show X.A.units + 1 + 1 ≤ _; omega) | (show X.A.units ≤ _; omega) | (simp [Around.in1]; omega)
    omega
  have hsz : (prs.map fun q => (Value.ref q.2.1, q.2.2)).length ≤ sizeLine := by rw [List.length_map, hl]; exact hz
  have hok : PlainSeq "list" s.heap a (ps.map Value.ref).toArray ∧ PairItems s.heap (ps.map Value.ref).toArray Ts (prs.map fun q => (Value.ref q.2.1, q.2.2)) := ⟨⟨o, n, ho, hc, hd, hdat⟩, items⟩
  refine call_dict_pairsH (knd := tupleKind (mixKind X.prog X.w)) (ps := prs) P (I.ok.hd hcalm) hroom hok ⟨by rw [List.length_map], fun i key v e => ?_⟩ (fun h' hk x hx => ?_) hsz fun h' tk hd' k => ?_
  · have e : (prs.map fun q => (Value.ref q.2.1, q.2.2))[i]? = some (key, v) := e
    rw [List.getElem?_map] at e
    obtain ⟨qq, h1, h2⟩ := Option.map_eq_some_iff.mp e
    cases h2
    exact ⟨qq.1, qq.2.1, h1, rfl⟩
  · obtain ⟨ob, its, nn, g1, g2, g3, g4⟩ := keys x hx
    exact ⟨ob, its, nn, hk x.2.1 ob (Nat.ne_of_lt (Heap.lt_size g1)) (fun z => nomatch z) g1, g2, g3, g4⟩
  · have hm : (s.heap.objs.size == sysModules) = false := beq_eq_false_iff_ne.mpr (Nat.ne_of_gt I.big)
    have hlen : (mergeT [] kvs).length ≤ sizeLine := by
      refine Nat.le_trans (length_mergeT kvs []) ?_
      rw [List.length_nil, Nat.zero_add, ← hlp]
      exact hz
    have kk : ∀ b o, s.heap.get? b = some o → h'.get? b = some o := fun b o e => k b o (fun z => nomatch z) e
    obtain ⟨od, es, ep, c1, c2, c3, c4, c5, c6⟩ := hd'
    exact ⟨.ref s.heap.objs.size, upd H s.heap.objs.size (.dT (mergeT [] kvs)), I.laid (t' := tk) kk (Nat.le_refl _) (show ObjOk X.prog X.w _ _ _ (.dT (mergeT [] kvs)) from ⟨hlen, hm, storedAllH [] prs, KT.keeps (KT.merge rel .nil) (fun c ys ec => by
      rw [upd_ne (fun z => by rw [z, I.hok.fresh (Nat.le_refl _)] at ec; cases ec)]; exact ec), od, es, ep, c1, c2, c3, c4, c6⟩), rfl, q _ (I.hok.fresh (Nat.le_refl _))⟩
end
end L2
namespace VL
open PySem L2
/-- keys and values behind these puts -/
def mrgT : List (List Key × VV) → List (List Key) → List VV → List (List Key) × List VV
  | [], ks, vs => (ks, vs)
  | p :: ps, ks, vs => mrgT ps (pKs ks p.1) (pVs ks vs p.1 p.2)
section
variable {K : PySem.W.Frag} {m : List Addr} {H : Hp} {h : VH}
theorem mrgT_ok : ∀ {ps : List (List Key × VV)} {kvs acc : List (List Key × V)} {vs : List VV}, kvs.map Prod.fst = ps.map Prod.fst → Rels K m H (ps.map Prod.snd) (kvs.map Prod.snd) → Rels K m H vs (acc.map Prod.snd) →
    (mergeT acc kvs).map Prod.fst = (mrgT ps (acc.map Prod.fst) vs).1 ∧ Rels K m H (mrgT ps (acc.map Prod.fst) vs).2 ((mergeT acc kvs).map Prod.snd)
  | [], [], acc, vs, _, _, r => ⟨rfl, r⟩
  | [], _ :: _, _, _, e, _, _ => by cases e
  | _ :: _, [], _, _, e, _, _ => by cases e
  | p :: ps, kv :: kvs, acc, vs, e, r, ra => by
    rw [List.map_cons, List.map_cons] at e
    rw [List.map_cons, List.map_cons] at r
    obtain ⟨r1, r2⟩ := rels_cons r
    obtain ⟨e1, e2⟩ := List.cons.inj e
    have step : mergeT acc (kv :: kvs) = mergeT (putK acc kv.1 kv.2) kvs := rfl
    rw [step, mrgT, ← e1, ← put_fst (y := kv.2)]
    exact mrgT_ok e2 r2 (put_snd r1 ra)
theorem keysV_rel : ∀ {ks : List Key} {ys : List V}, Rels K m H (ks.map keyV) ys → ys = ks.map kV
  | [], [], _ => rfl
  | [], _ :: _, r => by have := r.len; simp at this
  | _ :: _, [], r => by have := r.len; simp at this
  | k :: ks, y :: ys, r => by
    obtain ⟨r1, r2⟩ := rels_cons r
    rw [List.map_cons, keyV_rel r1, keysV_rel r2]
def guDictPT : GU := fun x h Q => ∃ ps : List (List Key × VV), lstOf h x = some (ps.map fun p => .tup [.tup (p.1.map keyV), p.2]) ∧ Q (.new (.dtu (mrgT ps [] []).1 (mrgT ps [] []).2)) h
theorem pairsT_ok : ∀ {ps : List (List Key × VV)} {ys : List V}, Rels K m H (ps.map fun p => VV.tup [.tup (p.1.map keyV), p.2]) ys → ∃ (as : List Addr) (kvs : List (List Key × V)), ys = as.map V.ref ∧ Paired (fun p (kv : List Key × V) => ∃ b, SqT K H p [.ref b, kv.2] ∧ H b = some (.tup (kv.1.map kV))) as kvs ∧ kvs.map Prod.fst = ps.map Prod.fst ∧ Rels K m H (ps.map Prod.snd) (kvs.map Prod.snd)
  | [], [], _ => ⟨[], [], rfl, .nil, rfl, .nil⟩
  | [], _ :: _, r => by have := r.len; simp at this
  | _ :: _, [], r => by have := r.len; simp at this
  | p :: ps, y :: ys, r => by
    obtain ⟨r1, r2⟩ := rels_cons r
    obtain ⟨as, kvs, rfl, h2, h3, h4⟩ := pairsT_ok r2
    obtain ⟨a, zs, rfl, sq, rz⟩ := RelT.tup_inv r1
    obtain ⟨u, v, rfl, ru, rv⟩ := rels2 rz
    obtain ⟨b, ws, rfl, hb, rk⟩ := RelT.tup_raw ru
    have := keysV_rel rk
    subst this
    exact ⟨a :: as, (p.1, v) :: kvs, rfl, .cons ⟨b, sq, hb⟩ h2, by rw [List.map_cons, List.map_cons, h3], .cons rv h4⟩
end
section
variable {X : Cx}
theorem mc_dictPT (hu : X.A.units + 65 < cLine) (hc : X.calm = true := by rfl) : MC1 X (.type "dict") guDictPT := by
  refine ⟨_, call_dictPT hc hu, fun m h H x rx QV Q rh r1 q k => ?_⟩
  obtain ⟨ps, e, q⟩ := q
  obtain ⟨p, ys, rfl, hp, r⟩ := lstOf_ok rh r1 e
  obtain ⟨as, kvs, rfl, h2, h3, h4⟩ := pairsT_ok r
  refine ⟨p, as, kvs, rfl, .of hp, h2, fun l hl => ?_⟩
  obtain ⟨m1, m2⟩ := mrgT_ok (acc := []) h3 h4 .nil
  exact k m _ h (.new (.dtu (mrgT ps [] []).1 (mrgT ps [] []).2)) (.ref l) ⟨Ev.laid hl, rh.laid hl, ⟨l, rfl, rh.fresh hl, _, upd_same, m1, m2.mono (Ev.laid hl)⟩, fun _ a _ z => by cases z; exact hl⟩ q
end
/-! ### a statement that walks over a dict's keys within: the dict is under the lock through all of it -/
section
variable {X : Cx} {a : Expr} {ga : GE}
/-- the keys of the dict that stands under the lock -/
def giKA (ga : GE) : GI := fun ρ h Q => ga ρ h fun r h1 => ∃ (n : Nat) (ob : Obj) (kvs : List (List Key × V)) (vs : List VV), r = .val (.ref n) ∧ h1[n]? = some (.fdt ob kvs vs) ∧ Q ((kvs.map Prod.fst).map keyTV) (fun h' => h'[n]? = some (.fdt ob kvs vs)) h1
theorem miKA {tg : Expr} (ha : MX X a ga) : MI X tg a (giKA ga) := by
  obtain ⟨td, a1, a2⟩ := ha.ex
  refine ⟨_, pi_keys a1, fun m h H ρ σ QV R rh re hq k => ?_⟩
  refine a2 m h H ρ σ _ _ rh re hq fun m1 H1 h1 r x p qq => ?_
  obtain ⟨n, od, kvs, vs, rfl, hf1, qq⟩ := qq
  obtain ⟨pb, rfl, eb⟩ := RelT.ref_inv p.rr
  obtain ⟨w1, w2⟩ := p.rh.obj n _ pb hf1 eb
  refine ⟨pb, od, rfl, .inr ⟨kvs, w1, k m1 H1 h1 _ _ _ p.ev p.rh ⟨_, _, by rw [List.length_map, List.length_map]; exact walk_keysT, fun m2 h2 H2 e2 r2 s2 => (show RelO X.K m2 H2 pb (.fdt od kvs vs) from r2.obj n _ pb s2 (e2.pre _ _ eb)).1, fun i Hh x Hg m2 h2 y e r2 s2 v hv => ?_⟩ qq⟩⟩
  obtain ⟨rfl, k', v', qd, e1, rfl, e2⟩ := y
  rw [List.getElem?_map, List.getElem?_map, e1] at hv
  cases hv
  exact ⟨Ev.refl, r2, keyT_rel e2⟩
def gLk (gs : GS) : GS := fun D ρ h => ∃ n ks vs, h[n]? = some (.dtu ks vs) ∧ ∀ (ob : Obj) (kvs : List (List Key × V)), kvs.map Prod.fst = ks → gs (lkE n ob kvs ks vs D) ρ (h.set n (.fdt ob kvs vs))
theorem msLk {st : Stmt} {gs : GS} (hb : MS X st gs) : MS X st (gLk gs) := by
  obtain ⟨t, b1, b2⟩ := hb.ex
  refine ⟨_, ps_lock b1, fun m h H ρ σ D E rh re hq k => ?_⟩
  obtain ⟨n, ks, vs, hn, q⟩ := hq
  have ml : n < m.length := by rw [rh.len]; exact (List.getElem?_eq_some_iff.mp hn).1
  have hpa : m[n]? = some m[n] := List.getElem?_eq_getElem ml
  generalize m[n] = pa at hpa
  obtain ⟨kvs, z1, z2, z3⟩ := rh.obj n _ pa hn hpa
  refine ⟨pa, .dT kvs, z1, trivial, fun od => ?_⟩
  obtain ⟨ev, rh2⟩ := rh_write (ov := .fdt od kvs vs) (u := .frz od (.dT kvs)) rh hn hpa fun ev => ⟨upd_same, z3.mono ev⟩
  refine b2 m _ _ ρ σ (lkE n od kvs ks vs D) _ rh2 (re.mono ev) (q od kvs z2) ⟨fun m' H' h' ρ' σ' ev' rh' re' hq => ?_, fun m' H' h' r x p hq => ?_, fun m' H' h' ρ' σ' ev' rh' re' hq => hq.elim, fun m' H' h' ρ' σ' ev' rh' re' hq => hq.elim, fun m' H' h' ρ' σ' C fs vs dx ys ev' rh' re' hq => hq.elim⟩
  · obtain ⟨hn', q'⟩ := hq
    have hp' := ev'.pre _ _ hpa
    obtain ⟨w1, w2⟩ := rh'.obj n _ pa hn' hp'
    obtain ⟨ev2, rh3⟩ := rh_write (ov := .dtu ks vs) (u := .dT kvs) rh' hn' hp' fun ev => ⟨kvs, upd_same, z2, w2.mono ev⟩
    exact ⟨w1, k.nx m' _ _ ρ' σ' ((ev.trans ev').trans ev2) rh3 (re'.mono ev2) q'⟩
  · obtain ⟨hn', b, rfl, q'⟩ := hq
    have hp' := p.ev.pre _ _ hpa
    obtain ⟨w1, w2⟩ := p.rh.obj n _ pa hn' hp'
    obtain ⟨ev2, rh3⟩ := rh_write (ov := .dtu ks vs) (u := .dT kvs) p.rh hn' hp' fun ev => ⟨kvs, upd_same, z2, w2.mono ev⟩
    have ex : x = .bl b := by
      have := p.rr
      cases this; rfl
    subst ex
    exact ⟨w1, k.rt m' _ _ _ _ ((Pst.val rh3 .bl).from_ ((ev.trans p.ev).trans ev2) rh3) q'⟩
end
section
variable {ρ : VL.Env} {h : VH} {g2 gs : GS} {N bk ct : VL.Env → VH → Prop} {rt : R → VH → Prop} {ex : XV} {x : R} {Q : R → VH → Prop}
theorem t_dictPT {ps : List (List Key × VV)} (e : lstOf h x = some (ps.map fun p => .tup [.tup (p.1.map keyV), p.2])) (q : Q (.new (.dtu (mrgT ps [] []).1 (mrgT ps [] []).2)) h) : guDictPT x h Q := ⟨ps, e, q⟩
theorem t_seqLk (q : gLk gs ⟨fun ρ' h' => g2 ⟨N, rt, bk, ct, ex⟩ ρ' h', rt, bk, ct, ex⟩ ρ h) : gSeq (gLk gs) g2 ⟨N, rt, bk, ct, ex⟩ ρ h := ⟨_, q, fun _ _ z => z⟩
theorem t_giKA {ga : GE} {QI : List VV → (VH → Prop) → VH → Prop} {n : Nat} {ob : Obj} {kvs : List (List Key × V)} {vs : List VV} (va : ∀ Q : R → VH → Prop, Q (.val (.ref n)) h → ga ρ h Q) (e : h[n]? = some (.fdt ob kvs vs)) (q : QI ((kvs.map Prod.fst).map keyTV) (fun h' => h'[n]? = some (.fdt ob kvs vs)) h) : giKA ga ρ h QI := va _ ⟨n, ob, kvs, vs, rfl, e, q⟩
end
end VL

/-! the text of beatswitch_k53_whole_none_waits_long by its defs -/
namespace Tx
open PySem L2 VL
def top (i : Nat) : Stmt := PySem.Challenge.pw_beatswitch_k53_whole_none_waits_long.main.body.getD i (.Pass ⟨0, 0, 0, 0⟩)
abbrev s_is_whole : Stmt := top 6
abbrev N_is_whole : List Str := ["thing"]
abbrev P_is_whole : List Str := ["thing"]
theorem sc_is_whole : FnScope N_is_whole P_is_whole (defScope s_is_whole) := ⟨rfl, rfl, rfl, by decide +kernel, rfl, by decide +kernel, by decide +kernel⟩
abbrev s_is_among : Stmt := top 7
abbrev N_is_among : List Str := ["n", "thing"]
abbrev P_is_among : List Str := ["n", "thing"]
theorem sc_is_among : FnScope N_is_among P_is_among (defScope s_is_among) := ⟨rfl, rfl, rfl, by decide +kernel, rfl, by decide +kernel, by decide +kernel⟩
abbrev s_is_size : Stmt := top 8
abbrev N_is_size : List Str := ["n"]
abbrev P_is_size : List Str := ["n"]
theorem sc_is_size : FnScope N_is_size P_is_size (defScope s_is_size) := ⟨rfl, rfl, rfl, by decide +kernel, rfl, by decide +kernel, by decide +kernel⟩
abbrev s_check_line : Stmt := top 9
abbrev N_check_line : List Str := ["n", "at", "number"]
abbrev P_check_line : List Str := ["n", "at", "number"]
theorem sc_check_line : FnScope N_check_line P_check_line (defScope s_check_line) := ⟨rfl, rfl, rfl, by decide +kernel, rfl, by decide +kernel, by decide +kernel⟩
abbrev s_check_lines : Stmt := top 10
abbrev N_check_lines : List Str := ["n", "one", "other"]
abbrev P_check_lines : List Str := ["n", "one", "other"]
theorem sc_check_lines : FnScope N_check_lines P_check_lines (defScope s_check_lines) := ⟨rfl, rfl, rfl, by decide +kernel, rfl, by decide +kernel, by decide +kernel⟩
abbrev s_all_cells : Stmt := top 11
abbrev N_all_cells : List Str := ["n", "row", "column"]
abbrev P_all_cells : List Str := ["n"]
theorem sc_all_cells : FnScope N_all_cells P_all_cells (defScope s_all_cells) := ⟨rfl, rfl, rfl, by decide +kernel, rfl, by decide +kernel, by decide +kernel⟩
abbrev s_wished_cells : Stmt := top 12
abbrev N_wished_cells : List Str := ["table", "i", "row", "j", "count"]
abbrev P_wished_cells : List Str := ["table"]
theorem sc_wished_cells : FnScope N_wished_cells P_wished_cells (defScope s_wished_cells) := ⟨rfl, rfl, rfl, by decide +kernel, rfl, by decide +kernel, by decide +kernel⟩
abbrev s_count_at : Stmt := top 13
abbrev N_count_at : List Str := ["table", "row", "column"]
abbrev P_count_at : List Str := ["table", "row", "column"]
theorem sc_count_at : FnScope N_count_at P_count_at (defScope s_count_at) := ⟨rfl, rfl, rfl, by decide +kernel, rfl, by decide +kernel, by decide +kernel⟩
abbrev s_line_sum : Stmt := top 14
abbrev N_line_sum : List Str := ["table", "line", "side", "number", "row"]
abbrev P_line_sum : List Str := ["table", "line"]
theorem sc_line_sum : FnScope N_line_sum P_line_sum (defScope s_line_sum) := ⟨rfl, rfl, rfl, by decide +kernel, rfl, by decide +kernel, by decide +kernel⟩
abbrev s_is_pairing : Stmt := top 16
abbrev N_is_pairing : List Str := ["n", "thing", "columns", "column"]
abbrev P_is_pairing : List Str := ["n", "thing"]
theorem sc_is_pairing : FnScope N_is_pairing P_is_pairing (defScope s_is_pairing) := ⟨rfl, rfl, rfl, by decide +kernel, rfl, by decide +kernel, by decide +kernel⟩
abbrev s_cells_of : Stmt := top 17
abbrev N_cells_of : List Str := ["pairing", "i", "j"]
abbrev P_cells_of : List Str := ["pairing"]
theorem sc_cells_of : FnScope N_cells_of P_cells_of (defScope s_cells_of) := ⟨rfl, rfl, rfl, by decide +kernel, rfl, by decide +kernel, by decide +kernel⟩
abbrev s_is_within : Stmt := top 18
abbrev N_is_within : List Str := ["table", "thing", "i", "j"]
abbrev P_is_within : List Str := ["table", "thing"]
theorem sc_is_within : FnScope N_is_within P_is_within (defScope s_is_within) := ⟨rfl, rfl, rfl, by decide +kernel, rfl, by decide +kernel, by decide +kernel⟩
abbrev s_is_full : Stmt := top 19
abbrev N_is_full : List Str := ["table", "thing", "i", "j"]
abbrev P_is_full : List Str := ["table", "thing"]
theorem sc_is_full : FnScope N_is_full P_is_full (defScope s_is_full) := ⟨rfl, rfl, rfl, by decide +kernel, rfl, by decide +kernel, by decide +kernel⟩
abbrev s_wave : Stmt := top 21
abbrev N_wave : List Str := ["table", "beat", "n", "pairing", "diagonal", "row", "column"]
abbrev P_wave : List Str := ["table", "beat"]
theorem sc_wave : FnScope N_wave P_wave (defScope s_wave) := ⟨rfl, rfl, rfl, by decide +kernel, rfl, by decide +kernel, by decide +kernel⟩
abbrev s_Keeper___init__ : Stmt := inClass (top 23) 0
abbrev N_Keeper___init__ : List Str := ["self", "n", "cell"]
abbrev P_Keeper___init__ : List Str := ["self", "n"]
theorem sc_Keeper___init__ : FnScope N_Keeper___init__ P_Keeper___init__ (defScope s_Keeper___init__) := ⟨rfl, rfl, rfl, by decide +kernel, rfl, by decide +kernel, by decide +kernel⟩
abbrev s_Keeper_come : Stmt := inClass (top 23) 1
abbrev N_Keeper_come : List Str := ["self", "row", "column", "number"]
abbrev P_Keeper_come : List Str := ["self", "row", "column"]
theorem sc_Keeper_come : FnScope N_Keeper_come P_Keeper_come (defScope s_Keeper_come) := ⟨rfl, rfl, rfl, by decide +kernel, rfl, by decide +kernel, by decide +kernel⟩
abbrev s_Keeper__counts_of : Stmt := inClass (top 23) 5
abbrev N_Keeper__counts_of : List Str := ["self", "row", "column"]
abbrev P_Keeper__counts_of : List Str := ["self", "row"]
theorem sc_Keeper__counts_of : FnScope N_Keeper__counts_of P_Keeper__counts_of (defScope s_Keeper__counts_of) := ⟨rfl, rfl, rfl, by decide +kernel, rfl, by decide +kernel, by decide +kernel⟩
abbrev s_Keeper_table : Stmt := inClass (top 23) 4
abbrev N_Keeper_table : List Str := ["self", "row"]
abbrev P_Keeper_table : List Str := ["self"]
theorem sc_Keeper_table : FnScope N_Keeper_table P_Keeper_table (defScope s_Keeper_table) := ⟨rfl, rfl, rfl, by decide +kernel, rfl, by decide +kernel, by decide +kernel⟩
abbrev s_Keeper_beat : Stmt := inClass (top 23) 2
abbrev N_Keeper_beat : List Str := ["self", "told", "cell", "number", "came"]
abbrev P_Keeper_beat : List Str := ["self"]
theorem sc_Keeper_beat : FnScope N_Keeper_beat P_Keeper_beat (defScope s_Keeper_beat) := ⟨rfl, rfl, rfl, by decide +kernel, rfl, by decide +kernel, by decide +kernel⟩
abbrev s_Keeper_beats : Stmt := inClass (top 23) 3
abbrev N_Keeper_beats : List Str := ["self"]
abbrev P_Keeper_beats : List Str := ["self"]
theorem sc_Keeper_beats : FnScope N_Keeper_beats P_Keeper_beats (defScope s_Keeper_beats) := ⟨rfl, rfl, rfl, by decide +kernel, rfl, by decide +kernel, by decide +kernel⟩
abbrev s_Keeper_waiting : Stmt := inClass (top 23) 6
abbrev N_Keeper_waiting : List Str := ["self", "row", "column", "piece"]
abbrev P_Keeper_waiting : List Str := ["self", "row", "column"]
theorem sc_Keeper_waiting : FnScope N_Keeper_waiting P_Keeper_waiting (defScope s_Keeper_waiting) := ⟨rfl, rfl, rfl, by decide +kernel, rfl, by decide +kernel, by decide +kernel⟩
abbrev s_latest : Stmt := top 25
abbrev N_latest : List Str := ["table", "row", "column", "count"]
abbrev P_latest : List Str := ["table", "row", "column"]
theorem sc_latest : FnScope N_latest P_latest (defScope s_latest) := ⟨rfl, rfl, rfl, by decide +kernel, rfl, by decide +kernel, by decide +kernel⟩
abbrev s_u_law_pull : Stmt := top 27
abbrev N_u_law_pull : List Str := ["urn", "size", "at", "cell", "seed", "rest"]
abbrev P_u_law_pull : List Str := ["urn", "size"]
theorem sc_u_law_pull : FnScope N_u_law_pull P_u_law_pull (defScope s_u_law_pull) := ⟨rfl, rfl, rfl, by decide +kernel, rfl, by decide +kernel, by decide +kernel⟩
abbrev s_u_law_taken : Stmt := top 28
abbrev N_u_law_taken : List Str := ["keeper", "n", "pieces", "gone", "table", "pairing", "number", "waited", "i", "j", "turn"]
abbrev P_u_law_taken : List Str := ["keeper", "n", "pieces", "gone"]
theorem sc_u_law_taken : FnScope N_u_law_taken P_u_law_taken (defScope s_u_law_taken) := ⟨rfl, rfl, rfl, by decide +kernel, rfl, by decide +kernel, by decide +kernel⟩
abbrev s_law : Stmt := top 29
abbrev N_law : List Str := ["script", "urn", "n", "keeper", "pieces", "k", "gone", "one", "turn", "i", "j", "table", "far", "left", "row", "cell"]
abbrev P_law : List Str := ["script"]
theorem sc_law : FnScope N_law P_law (defScope s_law) := ⟨rfl, rfl, rfl, by decide +kernel, rfl, by decide +kernel, by decide +kernel⟩
abbrev FS_Keeper : List Str := ["_n", "_many_came", "_many_beats", "_standing"]
theorem fl_Keeper__n : Fld FS_Keeper 0 "_n" := ⟨by decide +kernel, rfl⟩
theorem fl_Keeper__many_came : Fld FS_Keeper 1 "_many_came" := ⟨by decide +kernel, rfl⟩
theorem fl_Keeper__many_beats : Fld FS_Keeper 2 "_many_beats" := ⟨by decide +kernel, rfl⟩
theorem fl_Keeper__standing : Fld FS_Keeper 3 "_standing" := ⟨by decide +kernel, rfl⟩
/-- where the defs stand -/
structure Gs (K : PySem.W.Frag) (mg : Str → Option Value) where
  {a_is_whole : Addr}
  {d_is_whole : FuncData}
  F_is_whole : Fun K "is_whole" "is_whole" s_is_whole a_is_whole d_is_whole
  b_is_whole : Binds K d_is_whole P_is_whole []
  m_is_whole : mg "is_whole" = some (.ref a_is_whole)
  {a_is_among : Addr}
  {d_is_among : FuncData}
  F_is_among : Fun K "is_among" "is_among" s_is_among a_is_among d_is_among
  b_is_among : Binds K d_is_among P_is_among []
  m_is_among : mg "is_among" = some (.ref a_is_among)
  {a_is_size : Addr}
  {d_is_size : FuncData}
  F_is_size : Fun K "is_size" "is_size" s_is_size a_is_size d_is_size
  b_is_size : Binds K d_is_size P_is_size []
  m_is_size : mg "is_size" = some (.ref a_is_size)
  {a_check_line : Addr}
  {d_check_line : FuncData}
  F_check_line : Fun K "check_line" "check_line" s_check_line a_check_line d_check_line
  b_check_line : Binds K d_check_line P_check_line []
  m_check_line : mg "check_line" = some (.ref a_check_line)
  {a_check_lines : Addr}
  {d_check_lines : FuncData}
  F_check_lines : Fun K "check_lines" "check_lines" s_check_lines a_check_lines d_check_lines
  b_check_lines : Binds K d_check_lines P_check_lines []
  m_check_lines : mg "check_lines" = some (.ref a_check_lines)
  {a_all_cells : Addr}
  {d_all_cells : FuncData}
  F_all_cells : Fun K "all_cells" "all_cells" s_all_cells a_all_cells d_all_cells
  b_all_cells : Binds K d_all_cells P_all_cells []
  m_all_cells : mg "all_cells" = some (.ref a_all_cells)
  {a_wished_cells : Addr}
  {d_wished_cells : FuncData}
  F_wished_cells : Fun K "wished_cells" "wished_cells" s_wished_cells a_wished_cells d_wished_cells
  b_wished_cells : Binds K d_wished_cells P_wished_cells []
  m_wished_cells : mg "wished_cells" = some (.ref a_wished_cells)
  {a_count_at : Addr}
  {d_count_at : FuncData}
  F_count_at : Fun K "count_at" "count_at" s_count_at a_count_at d_count_at
  b_count_at : Binds K d_count_at P_count_at []
  m_count_at : mg "count_at" = some (.ref a_count_at)
  {a_line_sum : Addr}
  {d_line_sum : FuncData}
  F_line_sum : Fun K "line_sum" "line_sum" s_line_sum a_line_sum d_line_sum
  b_line_sum : Binds K d_line_sum P_line_sum []
  m_line_sum : mg "line_sum" = some (.ref a_line_sum)
  {a_is_pairing : Addr}
  {d_is_pairing : FuncData}
  F_is_pairing : Fun K "is_pairing" "is_pairing" s_is_pairing a_is_pairing d_is_pairing
  b_is_pairing : Binds K d_is_pairing P_is_pairing []
  m_is_pairing : mg "is_pairing" = some (.ref a_is_pairing)
  {a_cells_of : Addr}
  {d_cells_of : FuncData}
  F_cells_of : Fun K "cells_of" "cells_of" s_cells_of a_cells_of d_cells_of
  b_cells_of : Binds K d_cells_of P_cells_of []
  m_cells_of : mg "cells_of" = some (.ref a_cells_of)
  {a_is_within : Addr}
  {d_is_within : FuncData}
  F_is_within : Fun K "is_within" "is_within" s_is_within a_is_within d_is_within
  b_is_within : Binds K d_is_within P_is_within []
  m_is_within : mg "is_within" = some (.ref a_is_within)
  {a_is_full : Addr}
  {d_is_full : FuncData}
  F_is_full : Fun K "is_full" "is_full" s_is_full a_is_full d_is_full
  b_is_full : Binds K d_is_full P_is_full []
  m_is_full : mg "is_full" = some (.ref a_is_full)
  {a_wave : Addr}
  {d_wave : FuncData}
  F_wave : Fun K "wave" "wave" s_wave a_wave d_wave
  b_wave : Binds K d_wave P_wave []
  m_wave : mg "wave" = some (.ref a_wave)
  {a_Keeper___init__ : Addr}
  {d_Keeper___init__ : FuncData}
  F_Keeper___init__ : Fun K "__init__" "Keeper.__init__" s_Keeper___init__ a_Keeper___init__ d_Keeper___init__
  b_Keeper___init__ : Binds K d_Keeper___init__ P_Keeper___init__ []
  {a_Keeper_come : Addr}
  {d_Keeper_come : FuncData}
  F_Keeper_come : Fun K "come" "Keeper.come" s_Keeper_come a_Keeper_come d_Keeper_come
  b_Keeper_come : Binds K d_Keeper_come P_Keeper_come []
  {a_Keeper__counts_of : Addr}
  {d_Keeper__counts_of : FuncData}
  F_Keeper__counts_of : Fun K "_counts_of" "Keeper._counts_of" s_Keeper__counts_of a_Keeper__counts_of d_Keeper__counts_of
  b_Keeper__counts_of : Binds K d_Keeper__counts_of P_Keeper__counts_of []
  {a_Keeper_table : Addr}
  {d_Keeper_table : FuncData}
  F_Keeper_table : Fun K "table" "Keeper.table" s_Keeper_table a_Keeper_table d_Keeper_table
  b_Keeper_table : Binds K d_Keeper_table P_Keeper_table []
  {a_Keeper_beat : Addr}
  {d_Keeper_beat : FuncData}
  F_Keeper_beat : Fun K "beat" "Keeper.beat" s_Keeper_beat a_Keeper_beat d_Keeper_beat
  b_Keeper_beat : Binds K d_Keeper_beat P_Keeper_beat []
  {a_Keeper_beats : Addr}
  {d_Keeper_beats : FuncData}
  F_Keeper_beats : Fun K "beats" "Keeper.beats" s_Keeper_beats a_Keeper_beats d_Keeper_beats
  b_Keeper_beats : Binds K d_Keeper_beats P_Keeper_beats []
  {a_Keeper_waiting : Addr}
  {d_Keeper_waiting : FuncData}
  F_Keeper_waiting : Fun K "waiting" "Keeper.waiting" s_Keeper_waiting a_Keeper_waiting d_Keeper_waiting
  b_Keeper_waiting : Binds K d_Keeper_waiting P_Keeper_waiting []
  {a_latest : Addr}
  {d_latest : FuncData}
  F_latest : Fun K "latest" "latest" s_latest a_latest d_latest
  b_latest : Binds K d_latest P_latest []
  m_latest : mg "latest" = some (.ref a_latest)
  {a_u_law_pull : Addr}
  {d_u_law_pull : FuncData}
  F_u_law_pull : Fun K "_law_pull" "_law_pull" s_u_law_pull a_u_law_pull d_u_law_pull
  b_u_law_pull : Binds K d_u_law_pull P_u_law_pull []
  m_u_law_pull : mg "_law_pull" = some (.ref a_u_law_pull)
  {a_u_law_taken : Addr}
  {d_u_law_taken : FuncData}
  F_u_law_taken : Fun K "_law_taken" "_law_taken" s_u_law_taken a_u_law_taken d_u_law_taken
  b_u_law_taken : Binds K d_u_law_taken P_u_law_taken []
  m_u_law_taken : mg "_law_taken" = some (.ref a_u_law_taken)
  {a_law : Addr}
  {d_law : FuncData}
  F_law : Fun K "law" "law" s_law a_law d_law
  b_law : Binds K d_law P_law []
  m_law : mg "law" = some (.ref a_law)
  {c_Keeper : Addr}
  cl_Keeper : Cls K c_Keeper
  mg_Keeper : mg "Keeper" = some (.ref c_Keeper)
  mk_Keeper : Mk K c_Keeper a_Keeper___init__
  me_Keeper_come : Meth K c_Keeper "come" a_Keeper_come
  me_Keeper_beat : Meth K c_Keeper "beat" a_Keeper_beat
  me_Keeper_beats : Meth K c_Keeper "beats" a_Keeper_beats
  me_Keeper_table : Meth K c_Keeper "table" a_Keeper_table
  me_Keeper__counts_of : Meth K c_Keeper "_counts_of" a_Keeper__counts_of
  me_Keeper_waiting : Meth K c_Keeper "waiting" a_Keeper_waiting
  na_Keeper__n : NoAttr K c_Keeper "_n"
  na_Keeper__many_came : NoAttr K c_Keeper "_many_came"
  na_Keeper__many_beats : NoAttr K c_Keeper "_many_beats"
  na_Keeper__standing : NoAttr K c_Keeper "_standing"
  {t_LEAST_LINES : Tok}
  c_LEAST_LINES : mg "LEAST_LINES" = some (.int 2 t_LEAST_LINES)
  {t_MOST_LINES : Tok}
  c_MOST_LINES : mg "MOST_LINES" = some (.int 6 t_MOST_LINES)
  z_all : mg "all" = none
  z_bool : mg "bool" = none
  z_dict : mg "dict" = none
  z_enumerate : mg "enumerate" = none
  z_int : mg "int" = none
  z_isinstance : mg "isinstance" = none
  z_len : mg "len" = none
  z_list : mg "list" = none
  z_max : mg "max" = none
  z_range : mg "range" = none
  z_set : mg "set" = none
  z_sum : mg "sum" = none
  z_tuple : mg "tuple" = none
abbrev Ok (P : Program) (w : World) (K : PySem.W.Frag) (mg : Str → Option Value) (base : Heap) (k : Nat) (f : Addr) (fd : FuncData) (ps : List Str) (S : GC) : Prop := FnOk P w K mg base CX0 k f fd ps (spOf K ps.length S)
abbrev OkG (P : Program) (w : World) (K : PySem.W.Frag) (mg : Str → Option Value) (base : Heap) (k : Nat) (f : Addr) (fd : FuncData) (ps : List Str) (S : GC) : Prop := FnG P w K mg base k f fd ps (spOf K ps.length S)
abbrev OkW (P : Program) (w : World) (K : PySem.W.Frag) (mg : Str → Option Value) (base : Heap) (k : Nat) (f : Addr) (fd : FuncData) (ps : List Str) (S : GC) : Prop := FnW P w K mg base k f fd ps (spOf K ps.length S)
section
variable {P : Program} {w : World} {K : PySem.W.Frag} {mg : Str → Option Value} {base : Heap}
def bd_is_whole : GS := (gRet (gAndV (gU (guIsi "int") (gV 0)) (gNotV (gU (guIsi "bool") (gV 0)))))
theorem ok_is_whole (T : Gs K mg) {S : GC} 
    (hS : ∀ (x0 : VV) (h : VH) (QV : R → VH → Prop), S [x0] h QV → bd_is_whole  { nx := fun _ h' => fin h.length QV (.val .non) h', rt := fin h.length QV } [some x0] h) :
    Ok P w K mg base 1 T.a_is_whole T.d_is_whole P_is_whole S :=
  def_ok (g := bd_is_whole ) T.F_is_whole sc_is_whole (fun cdv A outer s H E hr =>
    (mbone (msret (mand (misi (T := "int") T.z_isinstance T.z_int (by decide +kernel) (mv 0)) (mone (mnot (misi (T := "bool") T.z_isinstance T.z_bool (by decide +kernel) (mv 0)))))))) (fun as h QV hl hs => match as, hl with | [x0], _ => hS x0 h QV hs)
def bd_is_among (S_is_whole : GC) : GS := (gRet (gAndV (gCallD 1 S_is_whole (VL.gCons (gV 1) gNil)) (gCh goLe goLt (gC (.int 0)) (gV 1) (gV 0))))
theorem ok_is_among (T : Gs K mg) {S_is_whole : GC} {S : GC} (G_is_whole : Ok P w K mg base 1 T.a_is_whole T.d_is_whole P_is_whole S_is_whole)
    (hS : ∀ (x0 x1 : VV) (h : VH) (QV : R → VH → Prop), S [x0, x1] h QV → bd_is_among S_is_whole { nx := fun _ h' => fin h.length QV (.val .non) h', rt := fin h.length QV } [some x0, some x1] h) :
    Ok P w K mg base 2 T.a_is_among T.d_is_among P_is_among S :=
  def_ok (g := bd_is_among S_is_whole) T.F_is_among sc_is_among (fun cdv A outer s H E hr =>
    (mbone (msret (mand (mcall G_is_whole (hr.mono (by decide)) T.m_is_whole T.F_is_whole.kp T.b_is_whole (macons (mv 1) manil)) (mone (mch mo_le mo_lt mi (mv 1) (mv 0))))))) (fun as h QV hl hs => match as, hl with | [x0, x1], _ => hS x0 x1 h QV hs)
def bd_is_size : GS := (gRet (gCh goLe goLe (gC (.int 2)) (gV 0) (gC (.int 6))))
theorem ok_is_size (T : Gs K mg) {S : GC} 
    (hS : ∀ (x0 : VV) (h : VH) (QV : R → VH → Prop), S [x0] h QV → bd_is_size  { nx := fun _ h' => fin h.length QV (.val .non) h', rt := fin h.length QV } [some x0] h) :
    Ok P w K mg base 1 T.a_is_size T.d_is_size P_is_size S :=
  def_ok (g := bd_is_size ) T.F_is_size sc_is_size (fun cdv A outer s H E hr =>
    (mbone (msret (mch mo_le mo_le (mg_ T.c_LEAST_LINES) (mv 0) (mg_ T.c_MOST_LINES))))) (fun as h QV hl hs => match as, hl with | [x0], _ => hS x0 h QV hs)
def bd_check_line (S_is_among : GC) : GS := (gIfS (gNot (gTru (gCallD 2 S_is_among (VL.gCons (gV 0) (VL.gCons (gV 2) gNil))))) gNever gNext)
theorem ok_check_line (T : Gs K mg) {S_is_among : GC} {S : GC} (G_is_among : Ok P w K mg base 2 T.a_is_among T.d_is_among P_is_among S_is_among)
    (hS : ∀ (x0 x1 x2 : VV) (h : VH) (QV : R → VH → Prop), S [x0, x1, x2] h QV → bd_check_line S_is_among { nx := fun _ h' => fin h.length QV (.val .non) h', rt := fin h.length QV } [some x0, some x1, some x2] h) :
    Ok P w K mg base 3 T.a_check_line T.d_check_line P_check_line S :=
  def_ok (g := bd_check_line S_is_among) T.F_check_line sc_check_line (fun cdv A outer s H E hr =>
    (mbone (msif (mtnot (mtt (mcall G_is_among (hr.mono (by decide)) T.m_is_among T.F_is_among.kp T.b_is_among (macons (mv 0) (macons (mv 2) manil))))) (mbone msnever) mbnil))) (fun as h QV hl hs => match as, hl with | [x0, x1, x2], _ => hS x0 x1 x2 h QV hs)
def bd_check_lines (S_check_line : GC) : GS := (gSeq (gDrop (gCallD 3 S_check_line (VL.gCons (gV 0) (VL.gCons (gC (.int 0)) (VL.gCons (gV 1) gNil)))))
    (gDrop (gCallD 3 S_check_line (VL.gCons (gV 0) (VL.gCons (gC (.int 1)) (VL.gCons (gV 2) gNil))))))
theorem ok_check_lines (T : Gs K mg) {S_check_line : GC} {S : GC} (G_check_line : Ok P w K mg base 3 T.a_check_line T.d_check_line P_check_line S_check_line)
    (hS : ∀ (x0 x1 x2 : VV) (h : VH) (QV : R → VH → Prop), S [x0, x1, x2] h QV → bd_check_lines S_check_line { nx := fun _ h' => fin h.length QV (.val .non) h', rt := fin h.length QV } [some x0, some x1, some x2] h) :
    Ok P w K mg base 4 T.a_check_lines T.d_check_lines P_check_lines S :=
  def_ok (g := bd_check_lines S_check_line) T.F_check_lines sc_check_lines (fun cdv A outer s H E hr =>
    (mbcons (msexpr (mcall G_check_line (hr.mono (by decide)) T.m_check_line T.F_check_line.kp T.b_check_line (macons (mv 0) (macons mi (macons (mv 1) manil)))))
    (mbone (msexpr (mcall G_check_line (hr.mono (by decide)) T.m_check_line T.F_check_line.kp T.b_check_line (macons (mv 0) (macons mi (macons (mv 2) manil)))))))) (fun as h QV hl hs => match as, hl with | [x0, x1, x2], _ => hS x0 x1 x2 h QV hs)
def bd_all_cells : GS := (gRet (gLc2 (giR1 (gV 0)) (gtN 1) gYes (giR1 (gV 0)) (gtN 2) gYes (gTup (VL.gCons (gV 1) (VL.gCons (gV 2) gNil))) [1, 2] [2]))
theorem ok_all_cells (T : Gs K mg) {S : GC} 
    (hS : ∀ (x0 : VV) (h : VH) (QV : R → VH → Prop), S [x0] h QV → bd_all_cells  { nx := fun _ h' => fin h.length QV (.val .non) h', rt := fin h.length QV } [some x0, none, none] h) :
    Ok P w K mg base 1 T.a_all_cells T.d_all_cells P_all_cells S :=
  def_ok (g := bd_all_cells ) T.F_all_cells sc_all_cells (fun cdv A outer s H E hr =>
    (mbone (msret (mlc2 (own := [("row", 1), ("column", 2)]) (vs1 := [2]) sc_all_cells.nd (mir1 T.z_range (mv 0)) (blkOk_by (own := [("row", 1), ("column", 2)]) (by kernel_rfl)) (fun _ _ _ _ _ => (mgn 1 sc_all_cells.nd)) (fun _ _ _ _ _ => mtsnil) (fun _ _ _ _ _ => (mir1 T.z_range (mv 0))) (fun _ _ _ _ _ => (mgn 2 sc_all_cells.nd)) (fun _ _ _ _ _ => mtsnil) (fun _ _ _ _ _ => (mtup (macons (mv 1) (macons (mv 2) manil)))))))) (fun as h QV hl hs => match as, hl with | [x0], _ => hS x0 h QV hs)
def bd_wished_cells : GS := (gRet (gLc2 (giE (gV 0)) (gtT 2 (gtCons (gtN 1) (gtCons (gtN 2) gtNil))) gYes (giE (gV 2)) (gtT 2 (gtCons (gtN 3) (gtCons (gtN 4) gtNil))) (gVal (gB goNe (gV 4) (gC (.int 0)))) (gTup (VL.gCons (gV 1) (VL.gCons (gV 3) gNil))) [1, 2, 3, 4] [3, 4]))
theorem ok_wished_cells (T : Gs K mg) {S : GC} 
    (hS : ∀ (x0 : VV) (h : VH) (QV : R → VH → Prop), S [x0] h QV → bd_wished_cells  { nx := fun _ h' => fin h.length QV (.val .non) h', rt := fin h.length QV } [some x0, none, none, none, none] h) :
    Ok P w K mg base 1 T.a_wished_cells T.d_wished_cells P_wished_cells S :=
  def_ok (g := bd_wished_cells ) T.F_wished_cells sc_wished_cells (fun cdv A outer s H E hr =>
    (mbone (msret (mlc2 (own := [("i", 1), ("row", 2), ("j", 3), ("count", 4)]) (vs1 := [3, 4]) sc_wished_cells.nd (mie T.z_enumerate (mv 0)) (blkOk_by (own := [("i", 1), ("row", 2), ("j", 3), ("count", 4)]) (by kernel_rfl)) (fun _ _ _ _ _ => (mgt (n := 2) rfl (mgscons (mgn 1 sc_wished_cells.nd) (mgscons (mgn 2 sc_wished_cells.nd) mgsnil)))) (fun _ _ _ _ _ => mtsnil) (fun _ _ _ _ _ => (mie T.z_enumerate (mv 2))) (fun _ _ _ _ _ => (mgt (n := 2) rfl (mgscons (mgn 3 sc_wished_cells.nd) (mgscons (mgn 4 sc_wished_cells.nd) mgsnil)))) (fun _ _ _ _ _ => (mtsone (mtcmp (mo_ne hr.units) (mv 4) mi))) (fun _ _ _ _ _ => (mtup (macons (mv 1) (macons (mv 3) manil)))))))) (fun as h QV hl hs => match as, hl with | [x0], _ => hS x0 h QV hs)
def bd_count_at (S_is_among : GC) : GS := (gSeq (gIfS (gOr (gNot (gTru (gCallD 2 S_is_among (VL.gCons (gCall1 guLen (gV 0)) (VL.gCons (gV 1) gNil))))) (gNot (gTru (gCallD 2 S_is_among (VL.gCons (gCall1 guLen (gV 0)) (VL.gCons (gV 2) gNil)))))) (gRet (gC (.int 0))) gNext)
    (gRet (gB goIx (gB goIx (gV 0) (gV 1)) (gV 2))))
theorem ok_count_at (T : Gs K mg) {S_is_among : GC} {S : GC} (G_is_among : Ok P w K mg base 2 T.a_is_among T.d_is_among P_is_among S_is_among)
    (hS : ∀ (x0 x1 x2 : VV) (h : VH) (QV : R → VH → Prop), S [x0, x1, x2] h QV → bd_count_at S_is_among { nx := fun _ h' => fin h.length QV (.val .non) h', rt := fin h.length QV } [some x0, some x1, some x2] h) :
    Ok P w K mg base 3 T.a_count_at T.d_count_at P_count_at S :=
  def_ok (g := bd_count_at S_is_among) T.F_count_at sc_count_at (fun cdv A outer s H E hr =>
    (mbcons (msif (mtw (mwor (mtnot (mtt (mcall G_is_among (hr.mono (by decide)) T.m_is_among T.F_is_among.kp T.b_is_among (macons (mcb1 mc_len T.z_len (by decide +kernel) (mv 0)) (macons (mv 1) manil))))) (mwor1 (mtnot (mtt (mcall G_is_among (hr.mono (by decide)) T.m_is_among T.F_is_among.kp T.b_is_among (macons (mcb1 mc_len T.z_len (by decide +kernel) (mv 0)) (macons (mv 2) manil)))))))) (mbone (msret mi)) mbnil)
    (mbone (msret (mx_ix (mx_ix (mv 0) (mv 1)) (mv 2)))))) (fun as h QV hl hs => match as, hl with | [x0, x1, x2], _ => hS x0 x1 x2 h QV hs)
def bd_line_sum : GS := (gSeq (gAsg (gtT 2 (gtCons (gtN 2) (gtCons (gtN 3) gtNil))) (gV 1))
    (gSeq (gIfS (gNot (gVal (gCh goLe goLt (gC (.int 0)) (gV 3) (gCall1 guLen (gV 0))))) (gRet (gC (.int 0))) gNext)
    (gSeq (gIfS (gVal (gB goEq (gV 2) (gC (.int 0)))) (gRet (gCall1 guSumS (gB goIx (gV 0) (gV 3)))) gNext)
    (gRet (gCall1 guSumS (gLc (giS (gV 0)) (gtN 4) gYes (gB goIx (gV 4) (gV 3)) [4]))))))
theorem ok_line_sum (T : Gs K mg) {S : GC} 
    (hS : ∀ (x0 x1 : VV) (h : VH) (QV : R → VH → Prop), S [x0, x1] h QV → bd_line_sum  { nx := fun _ h' => fin h.length QV (.val .non) h', rt := fin h.length QV } [some x0, some x1, none, none, none] h) :
    Ok P w K mg base 1 T.a_line_sum T.d_line_sum P_line_sum S :=
  def_ok (g := bd_line_sum ) T.F_line_sum sc_line_sum (fun cdv A outer s H E hr =>
    (mbcons (msasg (mv 1) (mgt (n := 2) rfl (mgscons (mgn 2 sc_line_sum.nd) (mgscons (mgn 3 sc_line_sum.nd) mgsnil))))
    (mbcons (msif (mtnot (mtch mo_le mo_lt mi (mv 3) (mcb1 mc_len T.z_len (by decide +kernel) (mv 0)))) (mbone (msret mi)) mbnil)
    (mbcons (msif (mtcmp (mo_eq hr.units) (mv 2) mi) (mbone (msret (mcb1 mc_sumS T.z_sum (by decide +kernel) (mx_ix (mv 0) (mv 3))))) mbnil)
    (mbone (msret (mcb1 mc_sumS T.z_sum (by decide +kernel) (mlc (own := [("row", 4)]) sc_line_sum.nd (mis (mv 0)) (blkOk_by (own := [("row", 4)]) (by kernel_rfl)) (fun _ _ _ _ _ => (mgn 4 sc_line_sum.nd)) (fun _ _ _ _ _ => mtsnil) (fun _ _ _ _ _ => (mx_ix (mv 4) (mv 3))))))))))) (fun as h QV hl hs => match as, hl with | [x0, x1], _ => hS x0 x1 h QV hs)
def bd_is_pairing (S_is_size : GC) (S_is_among : GC) : GS := (gSeq (gIfS (gOr (gNot (gTru (gCallD 1 S_is_size (VL.gCons (gV 0) gNil)))) (gOr (gNot (gVal (gU (guIsi "tuple") (gV 1)))) (gVal (gB goNe (gCall1 guLen (gV 1)) (gV 0))))) (gRet (gC (.bl false))) gNext)
    (gSeq (gSet 2 (gLc (giS (gV 1)) (gtN 3) (gVal (gB goIsNot (gV 3) (gC .non))) (gV 3) [3]))
    (gSeq (gIfS (gNot (gVal (gCall1 (guBls fun ns => ns.all id) (gLc (giS (gV 2)) (gtN 3) gYes (gCallD 2 S_is_among (VL.gCons (gV 0) (VL.gCons (gV 3) gNil))) [3])))) (gRet (gC (.bl false))) gNext)
    (gRet (gB goEq (gLenSet (gV 2)) (gCall1 guLen (gV 2)))))))
theorem ok_is_pairing (T : Gs K mg) {S_is_size : GC} {S_is_among : GC} {S : GC} (G_is_size : Ok P w K mg base 1 T.a_is_size T.d_is_size P_is_size S_is_size) (G_is_among : Ok P w K mg base 2 T.a_is_among T.d_is_among P_is_among S_is_among)
    (hS : ∀ (x0 x1 : VV) (h : VH) (QV : R → VH → Prop), S [x0, x1] h QV → bd_is_pairing S_is_size S_is_among { nx := fun _ h' => fin h.length QV (.val .non) h', rt := fin h.length QV } [some x0, some x1, none, none] h) :
    Ok P w K mg base 3 T.a_is_pairing T.d_is_pairing P_is_pairing S :=
  def_ok (g := bd_is_pairing S_is_size S_is_among) T.F_is_pairing sc_is_pairing (fun cdv A outer s H E hr =>
    (mbcons (msif (mtw (mwor (mtnot (mtt (mcall G_is_size (hr.mono (by decide)) T.m_is_size T.F_is_size.kp T.b_is_size (macons (mv 0) manil)))) (mwor (mtnot (mtv (misi (T := "tuple") T.z_isinstance T.z_tuple (by decide +kernel) (mv 1)))) (mwor1 (mtcmp (mo_ne hr.units) (mcb1 mc_len T.z_len (by decide +kernel) (mv 1)) (mv 0)))))) (mbone (msret mb)) mbnil)
    (mbcons (mssetlc 2 (own := [("column", 3)]) sc_is_pairing.nd (mis (mv 1)) (blkOk_by (own := [("column", 3)]) (by kernel_rfl)) (fun _ _ _ _ _ => (mgn 3 sc_is_pairing.nd)) (fun _ _ _ _ _ => (mtsone (mtcmp mo_isnot (mv 3) mn))) (fun _ _ _ _ _ => (mv 3)))
    (mbcons (msif (mtnot (mtv (mcb1 mc_all T.z_all (by decide +kernel) (mlc (own := [("column", 3)]) sc_is_pairing.nd (mis (mv 2)) (blkOk_by (own := [("column", 3)]) (by kernel_rfl)) (fun _ _ _ _ _ => (mgn 3 sc_is_pairing.nd)) (fun _ _ _ _ _ => mtsnil) (fun _ _ _ _ _ => (mcall G_is_among (hr.mono (by decide)) T.m_is_among T.F_is_among.kp T.b_is_among (macons (mv 0) (macons (mv 3) manil)))))))) (mbone (msret mb)) mbnil)
    (mbone (msret (mcmp (mo_eq hr.units) (mlenset T.z_len T.z_set (mv 2)) (mcb1 mc_len T.z_len (by decide +kernel) (mv 2))))))))) (fun as h QV hl hs => match as, hl with | [x0, x1], _ => hS x0 x1 h QV hs)
def bd_cells_of : GS := (gRet (gLc (giE (gV 0)) (gtT 2 (gtCons (gtN 1) (gtCons (gtN 2) gtNil))) (gVal (gB goIsNot (gV 2) (gC .non))) (gTup (VL.gCons (gV 1) (VL.gCons (gV 2) gNil))) [1, 2]))
theorem ok_cells_of (T : Gs K mg) {S : GC} 
    (hS : ∀ (x0 : VV) (h : VH) (QV : R → VH → Prop), S [x0] h QV → bd_cells_of  { nx := fun _ h' => fin h.length QV (.val .non) h', rt := fin h.length QV } [some x0, none, none] h) :
    Ok P w K mg base 1 T.a_cells_of T.d_cells_of P_cells_of S :=
  def_ok (g := bd_cells_of ) T.F_cells_of sc_cells_of (fun cdv A outer s H E hr =>
    (mbone (msret (mlc (own := [("i", 1), ("j", 2)]) sc_cells_of.nd (mie T.z_enumerate (mv 0)) (blkOk_by (own := [("i", 1), ("j", 2)]) (by kernel_rfl)) (fun _ _ _ _ _ => (mgt (n := 2) rfl (mgscons (mgn 1 sc_cells_of.nd) (mgscons (mgn 2 sc_cells_of.nd) mgsnil)))) (fun _ _ _ _ _ => (mtsone (mtcmp mo_isnot (mv 2) mn))) (fun _ _ _ _ _ => (mtup (macons (mv 1) (macons (mv 2) manil)))))))) (fun as h QV hl hs => match as, hl with | [x0], _ => hS x0 h QV hs)
def bd_is_within (S_is_pairing : GC) (S_cells_of : GC) : GS := (gSeq (gIfS (gNot (gTru (gCallD 2 S_is_pairing (VL.gCons (gCall1 guLen (gV 0)) (VL.gCons (gV 1) gNil))))) (gRet (gC (.bl false))) gNext)
    (gRet (gCall1 (guBls fun ns => ns.all id) (gLc (giS (gCallD 1 S_cells_of (VL.gCons (gV 1) gNil))) (gtT 2 (gtCons (gtN 2) (gtCons (gtN 3) gtNil))) gYes (gB goNe (gB goIx (gB goIx (gV 0) (gV 2)) (gV 3)) (gC (.int 0))) [2, 3]))))
theorem ok_is_within (T : Gs K mg) {S_is_pairing : GC} {S_cells_of : GC} {S : GC} (G_is_pairing : Ok P w K mg base 3 T.a_is_pairing T.d_is_pairing P_is_pairing S_is_pairing) (G_cells_of : Ok P w K mg base 1 T.a_cells_of T.d_cells_of P_cells_of S_cells_of)
    (hS : ∀ (x0 x1 : VV) (h : VH) (QV : R → VH → Prop), S [x0, x1] h QV → bd_is_within S_is_pairing S_cells_of { nx := fun _ h' => fin h.length QV (.val .non) h', rt := fin h.length QV } [some x0, some x1, none, none] h) :
    Ok P w K mg base 4 T.a_is_within T.d_is_within P_is_within S :=
  def_ok (g := bd_is_within S_is_pairing S_cells_of) T.F_is_within sc_is_within (fun cdv A outer s H E hr =>
    (mbcons (msif (mtnot (mtt (mcall G_is_pairing (hr.mono (by decide)) T.m_is_pairing T.F_is_pairing.kp T.b_is_pairing (macons (mcb1 mc_len T.z_len (by decide +kernel) (mv 0)) (macons (mv 1) manil))))) (mbone (msret mb)) mbnil)
    (mbone (msret (mcb1 mc_all T.z_all (by decide +kernel) (mlc (own := [("i", 2), ("j", 3)]) sc_is_within.nd (mis (mcall G_cells_of (hr.mono (by decide)) T.m_cells_of T.F_cells_of.kp T.b_cells_of (macons (mv 1) manil))) (blkOk_by (own := [("i", 2), ("j", 3)]) (by kernel_rfl)) (fun _ _ _ _ _ => (mgt (n := 2) rfl (mgscons (mgn 2 sc_is_within.nd) (mgscons (mgn 3 sc_is_within.nd) mgsnil)))) (fun _ _ _ _ _ => mtsnil) (fun _ _ _ _ _ => (mcmp (mo_ne hr.units) (mx_ix (mx_ix (mv 0) (mv 2)) (mv 3)) mi)))))))) (fun as h QV hl hs => match as, hl with | [x0, x1], _ => hS x0 x1 h QV hs)
def bd_is_full (S_is_within : GC) (S_wished_cells : GC) : GS := (gSeq (gIfS (gNot (gTru (gCallD 2 S_is_within (VL.gCons (gV 0) (VL.gCons (gV 1) gNil))))) (gRet (gC (.bl false))) gNext)
    (gRet (gCall1 (guBls fun ns => ns.all id) (gLc (giS (gCallD 1 S_wished_cells (VL.gCons (gV 0) gNil))) (gtT 2 (gtCons (gtN 2) (gtCons (gtN 3) gtNil))) gYes (gOrV (gB goIsNot (gB goIx (gV 1) (gV 2)) (gC .non)) (gB goIn (gV 3) (gV 1))) [2, 3]))))
theorem ok_is_full (T : Gs K mg) {S_is_within : GC} {S_wished_cells : GC} {S : GC} (G_is_within : Ok P w K mg base 4 T.a_is_within T.d_is_within P_is_within S_is_within) (G_wished_cells : Ok P w K mg base 1 T.a_wished_cells T.d_wished_cells P_wished_cells S_wished_cells)
    (hS : ∀ (x0 x1 : VV) (h : VH) (QV : R → VH → Prop), S [x0, x1] h QV → bd_is_full S_is_within S_wished_cells { nx := fun _ h' => fin h.length QV (.val .non) h', rt := fin h.length QV } [some x0, some x1, none, none] h) :
    Ok P w K mg base 5 T.a_is_full T.d_is_full P_is_full S :=
  def_ok (g := bd_is_full S_is_within S_wished_cells) T.F_is_full sc_is_full (fun cdv A outer s H E hr =>
    (mbcons (msif (mtnot (mtt (mcall G_is_within (hr.mono (by decide)) T.m_is_within T.F_is_within.kp T.b_is_within (macons (mv 0) (macons (mv 1) manil))))) (mbone (msret mb)) mbnil)
    (mbone (msret (mcb1 mc_all T.z_all (by decide +kernel) (mlc (own := [("i", 2), ("j", 3)]) sc_is_full.nd (mis (mcall G_wished_cells (hr.mono (by decide)) T.m_wished_cells T.F_wished_cells.kp T.b_wished_cells (macons (mv 0) manil))) (blkOk_by (own := [("i", 2), ("j", 3)]) (by kernel_rfl)) (fun _ _ _ _ _ => (mgt (n := 2) rfl (mgscons (mgn 2 sc_is_full.nd) (mgscons (mgn 3 sc_is_full.nd) mgsnil)))) (fun _ _ _ _ _ => mtsnil) (fun _ _ _ _ _ => (mor (mcmp mo_isnot (mx_ix (mv 1) (mv 2)) mn) (mone (mcmp (mo_in (hu65 hr)) (mv 3) (mv 1))))))))))) (fun as h QV hl hs => match as, hl with | [x0, x1], _ => hS x0 x1 h QV hs)
def bd_wave : GS := (gSeq (gSet 2 (gCall1 guLen (gV 0)))
    (gSeq (gSet 3 (gB goMul (gLst (VL.gCons (gC .non) gNil)) (gV 2)))
    (gSeq (gFor (giR1 (gV 2)) (gtN 4) (gFor (giR1 (gV 2)) (gtN 5) (gSeq (gSet 6 (gB goMod (gB goAdd (gB goAdd (gV 5) (gV 1)) (gV 4)) (gV 2)))
    (gIfS (gAnd (gVal (gB goNe (gB goIx (gB goIx (gV 0) (gV 5)) (gV 6)) (gC (.int 0)))) (gAnd (gVal (gB goIs (gB goIx (gV 3) (gV 5)) (gC .non))) (gVal (gB goNotIn (gV 6) (gV 3))))) (gSetI (gV 6) (gV 3) (gV 5)) gNext))))
    (gRet (gCall1 guTuple (gV 3))))))
theorem ok_wave (T : Gs K mg) {S : GC} 
    (hS : ∀ (x0 x1 : VV) (h : VH) (QV : R → VH → Prop), S [x0, x1] h QV → bd_wave  { nx := fun _ h' => fin h.length QV (.val .non) h', rt := fin h.length QV } [some x0, some x1, none, none, none, none, none] h) :
    Ok P w K mg base 1 T.a_wave T.d_wave P_wave S :=
  def_ok (g := bd_wave ) T.F_wave sc_wave (fun cdv A outer s H E hr =>
    (mbcons (msset 2 (mcb1 mc_len T.z_len (by decide +kernel) (mv 0)) sc_wave.nd)
    (mbcons (msset 3 (mop mo_mul (mlst (macons mn manil)) (mv 2)) sc_wave.nd)
    (mbcons (msfor (mir1 T.z_range (mv 2)) (mgn 4 sc_wave.nd) (mbone (msfor (mir1 T.z_range (mv 2)) (mgn 5 sc_wave.nd) (mbcons (msset 6 (mop mo_mod (mop mo_add (mop mo_add (mv 5) (mv 1)) (mv 4)) (mv 2)) sc_wave.nd)
    (mbone (msif (mtw (mwand (mtcmp (mo_ne hr.units) (mx_ix (mx_ix (mv 0) (mv 5)) (mv 6)) mi) (mwand (mtcmp mo_is (mx_ix (mv 3) (mv 5)) mn) (mwand1 (mtcmp (mo_notin (hu65 hr)) (mv 6) (mv 3)))))) (mbone (msseti (mv 6) (mv 3) (mv 5))) mbnil))) PassesOwn.never)) PassesOwn.never)
    (mbone (msret (mct1 mc_tuple T.z_tuple (by decide +kernel) (mv 3)))))))) (fun as h QV hl hs => match as, hl with | [x0, x1], _ => hS x0 x1 h QV hs)
def bd_Keeper___init__ (c_Keeper : Addr) (S_all_cells : GC) : GS := (gSeq (gFS c_Keeper FS_Keeper 0 (gV 1) (gV 0))
    (gSeq (gFS c_Keeper FS_Keeper 1 (gC (.int 0)) (gV 0))
    (gSeq (gFS c_Keeper FS_Keeper 2 (gC (.int 0)) (gV 0))
    (gFS c_Keeper FS_Keeper 3 (gDc (.dT []) (giS (gCallD 1 S_all_cells (VL.gCons (gV 1) gNil))) (gtN 2) gYes (gV 2) (gLst gNil) [2]) (gV 0)))))
theorem ok_Keeper___init__ (T : Gs K mg) {S_all_cells : GC} {S : GC} (G_all_cells : Ok P w K mg base 1 T.a_all_cells T.d_all_cells P_all_cells S_all_cells)
    (hS : ∀ (x0 x1 : VV) (h : VH) (QV : R → VH → Prop), S [x0, x1] h QV → bd_Keeper___init__ T.c_Keeper S_all_cells { nx := fun _ h' => fin h.length QV (.val .non) h', rt := fin h.length QV } [some x0, some x1, none] h) :
    Ok P w K mg base 2 T.a_Keeper___init__ T.d_Keeper___init__ P_Keeper___init__ S :=
  def_ok (g := bd_Keeper___init__ T.c_Keeper S_all_cells) T.F_Keeper___init__ sc_Keeper___init__ (fun cdv A outer s H E hr =>
    (mbcons (msfs T.cl_Keeper fl_Keeper__n T.na_Keeper__n (mv 1) (mv 0))
    (mbcons (msfs T.cl_Keeper fl_Keeper__many_came T.na_Keeper__many_came mi (mv 0))
    (mbcons (msfs T.cl_Keeper fl_Keeper__many_beats T.na_Keeper__many_beats mi (mv 0))
    (mbone (msfs T.cl_Keeper fl_Keeper__standing T.na_Keeper__standing (mdc (o0 := (.dT [])) (own := [("cell", 2)]) (hu1 hr) empT sc_Keeper___init__.nd (mis (mcall G_all_cells (hr.mono (by decide)) T.m_all_cells T.F_all_cells.kp T.b_all_cells (macons (mv 1) manil))) (blkOk_by (own := [("cell", 2)]) (by kernel_rfl)) (fun _ _ _ _ _ => (mgn 2 sc_Keeper___init__.nd)) (fun _ _ _ _ _ => mtsnil) (fun _ _ _ _ _ => (mv 2)) (fun _ _ _ _ _ => (mlst manil))) (mv 0))))))) (fun as h QV hl hs => match as, hl with | [x0, x1], _ => hS x0 x1 h QV hs)
def bd_Keeper_come (c_Keeper : Addr) (S_check_lines : GC) : GS := (gSeq (gDrop (gCallD 3 S_check_lines (VL.gCons (gFld c_Keeper FS_Keeper 0 (gV 0)) (VL.gCons (gV 1) (VL.gCons (gV 2) gNil)))))
    (gSeq (gSet 3 (gFld c_Keeper FS_Keeper 1 (gV 0)))
    (gSeq (gFA c_Keeper FS_Keeper 1 (fun i j => i + j) (gV 0) (gC (.int 1)))
    (gSeq (gDrop (gApp (gDG (gFld c_Keeper FS_Keeper 3 (gV 0)) (gTup (VL.gCons (gV 1) (VL.gCons (gV 2) gNil)))) (gTup (VL.gCons (gV 3) (VL.gCons (gFld c_Keeper FS_Keeper 2 (gV 0)) gNil)))))
    (gRet (gV 3))))))
theorem ok_Keeper_come (T : Gs K mg) {S_check_lines : GC} {S : GC} (G_check_lines : Ok P w K mg base 4 T.a_check_lines T.d_check_lines P_check_lines S_check_lines)
    (hS : ∀ (x0 x1 x2 : VV) (h : VH) (QV : R → VH → Prop), S [x0, x1, x2] h QV → bd_Keeper_come T.c_Keeper S_check_lines { nx := fun _ h' => fin h.length QV (.val .non) h', rt := fin h.length QV } [some x0, some x1, some x2, none] h) :
    Ok P w K mg base 5 T.a_Keeper_come T.d_Keeper_come P_Keeper_come S :=
  def_ok (g := bd_Keeper_come T.c_Keeper S_check_lines) T.F_Keeper_come sc_Keeper_come (fun cdv A outer s H E hr =>
    (mbcons (msexpr (mcall G_check_lines (hr.mono (by decide)) T.m_check_lines T.F_check_lines.kp T.b_check_lines (macons (mfld T.cl_Keeper fl_Keeper__n T.na_Keeper__n (mv 0)) (macons (mv 1) (macons (mv 2) manil)))))
    (mbcons (msset 3 (mfld T.cl_Keeper fl_Keeper__many_came T.na_Keeper__many_came (mv 0)) sc_Keeper_come.nd)
    (mbcons (msfa in_add T.cl_Keeper fl_Keeper__many_came T.na_Keeper__many_came (mv 0) mi)
    (mbcons (msexpr (mapp (mdg (hu1 hr) (mfld T.cl_Keeper fl_Keeper__standing T.na_Keeper__standing (mv 0)) (mtup (macons (mv 1) (macons (mv 2) manil)))) (mtup (macons (mv 3) (macons (mfld T.cl_Keeper fl_Keeper__many_beats T.na_Keeper__many_beats (mv 0)) manil)))))
    (mbone (msret (mv 3)))))))) (fun as h QV hl hs => match as, hl with | [x0, x1, x2], _ => hS x0 x1 x2 h QV hs)
def bd_Keeper__counts_of (c_Keeper : Addr) : GS := (gRet (gCall1 guTuple (gLc (giR1 (gFld c_Keeper FS_Keeper 0 (gV 0))) (gtN 2) gYes (gCall1 guLen (gDG (gFld c_Keeper FS_Keeper 3 (gV 0)) (gTup (VL.gCons (gV 1) (VL.gCons (gV 2) gNil))))) [2])))
theorem ok_Keeper__counts_of (T : Gs K mg) {S : GC} 
    (hS : ∀ (x0 x1 : VV) (h : VH) (QV : R → VH → Prop), S [x0, x1] h QV → bd_Keeper__counts_of T.c_Keeper { nx := fun _ h' => fin h.length QV (.val .non) h', rt := fin h.length QV } [some x0, some x1, none] h) :
    Ok P w K mg base 1 T.a_Keeper__counts_of T.d_Keeper__counts_of P_Keeper__counts_of S :=
  def_ok (g := bd_Keeper__counts_of T.c_Keeper) T.F_Keeper__counts_of sc_Keeper__counts_of (fun cdv A outer s H E hr =>
    (mbone (msret (mct1 mc_tuple T.z_tuple (by decide +kernel) (mlc (own := [("column", 2)]) sc_Keeper__counts_of.nd (mir1 T.z_range (mfld T.cl_Keeper fl_Keeper__n T.na_Keeper__n (mv 0))) (blkOk_by (own := [("column", 2)]) (by kernel_rfl)) (fun _ _ _ _ _ => (mgn 2 sc_Keeper__counts_of.nd)) (fun _ _ _ _ _ => mtsnil) (fun _ _ _ _ _ => (mcb1 mc_len T.z_len (by decide +kernel) (mdg (hu1 hr) (mfld T.cl_Keeper fl_Keeper__standing T.na_Keeper__standing (mv 0)) (mtup (macons (mv 1) (macons (mv 2) manil))))))))))) (fun as h QV hl hs => match as, hl with | [x0, x1], _ => hS x0 x1 h QV hs)
def bd_Keeper_table (c_Keeper : Addr) (S_Keeper__counts_of : GC) : GS := (gRet (gCall1 guTuple (gLc (giR1 (gFld c_Keeper FS_Keeper 0 (gV 0))) (gtN 1) gYes (gMeth c_Keeper FS_Keeper 1 S_Keeper__counts_of (gV 0) (VL.gCons (gV 1) gNil)) [1])))
theorem ok_Keeper_table (T : Gs K mg) {S_Keeper__counts_of : GC} {S : GC} (G_Keeper__counts_of : Ok P w K mg base 1 T.a_Keeper__counts_of T.d_Keeper__counts_of P_Keeper__counts_of S_Keeper__counts_of)
    (hS : ∀ (x0 : VV) (h : VH) (QV : R → VH → Prop), S [x0] h QV → bd_Keeper_table T.c_Keeper S_Keeper__counts_of { nx := fun _ h' => fin h.length QV (.val .non) h', rt := fin h.length QV } [some x0, none] h) :
    Ok P w K mg base 2 T.a_Keeper_table T.d_Keeper_table P_Keeper_table S :=
  def_ok (g := bd_Keeper_table T.c_Keeper S_Keeper__counts_of) T.F_Keeper_table sc_Keeper_table (fun cdv A outer s H E hr =>
    (mbone (msret (mct1 mc_tuple T.z_tuple (by decide +kernel) (mlc (own := [("row", 1)]) sc_Keeper_table.nd (mir1 T.z_range (mfld T.cl_Keeper fl_Keeper__n T.na_Keeper__n (mv 0))) (blkOk_by (own := [("row", 1)]) (by kernel_rfl)) (fun _ _ _ _ _ => (mgn 1 sc_Keeper_table.nd)) (fun _ _ _ _ _ => mtsnil) (fun _ _ _ _ _ => (mmeth T.cl_Keeper (by decide +kernel) T.me_Keeper__counts_of G_Keeper__counts_of (hr.mono (by decide)) T.b_Keeper__counts_of (mv 0) (macons (mv 1) manil)))))))) (fun as h QV hl hs => match as, hl with | [x0], _ => hS x0 h QV hs)
def bd_Keeper_beat (c_Keeper : Addr) (S_cells_of : GC) (S_wave : GC) (S_Keeper_table : GC) : GS := (gSeq (gSet 1 (gLst gNil))
    (gSeq (gFor (giS (gCallD 1 S_cells_of (VL.gCons (gCallD 2 S_wave (VL.gCons (gMeth c_Keeper FS_Keeper 0 S_Keeper_table (gV 0) gNil) (VL.gCons (gFld c_Keeper FS_Keeper 2 (gV 0)) gNil))) gNil))) (gtN 2) (gSeq (gAsg (gtT 2 (gtCons (gtN 3) (gtCons (gtN 4) gtNil))) (gPopAt (gDG (gFld c_Keeper FS_Keeper 3 (gV 0)) (gV 2)) (gC (.int 0))))
    (gDrop (gApp (gV 1) (gTup (VL.gCons (gV 3) (VL.gCons (gB goSub (gFld c_Keeper FS_Keeper 2 (gV 0)) (gV 4)) gNil)))))))
    (gSeq (gFA c_Keeper FS_Keeper 2 (fun i j => i + j) (gV 0) (gC (.int 1)))
    (gRet (gV 1)))))
theorem ok_Keeper_beat (T : Gs K mg) {S_cells_of : GC} {S_wave : GC} {S_Keeper_table : GC} {S : GC} (G_cells_of : Ok P w K mg base 1 T.a_cells_of T.d_cells_of P_cells_of S_cells_of) (G_wave : Ok P w K mg base 1 T.a_wave T.d_wave P_wave S_wave) (G_Keeper_table : Ok P w K mg base 2 T.a_Keeper_table T.d_Keeper_table P_Keeper_table S_Keeper_table)
    (hS : ∀ (x0 : VV) (h : VH) (QV : R → VH → Prop), S [x0] h QV → bd_Keeper_beat T.c_Keeper S_cells_of S_wave S_Keeper_table { nx := fun _ h' => fin h.length QV (.val .non) h', rt := fin h.length QV } [some x0, none, none, none, none] h) :
    Ok P w K mg base 3 T.a_Keeper_beat T.d_Keeper_beat P_Keeper_beat S :=
  def_ok (g := bd_Keeper_beat T.c_Keeper S_cells_of S_wave S_Keeper_table) T.F_Keeper_beat sc_Keeper_beat (fun cdv A outer s H E hr =>
    (mbcons (msset 1 (mlst manil) sc_Keeper_beat.nd)
    (mbcons (msfor (mis (mcall G_cells_of (hr.mono (by decide)) T.m_cells_of T.F_cells_of.kp T.b_cells_of (macons (mcall G_wave (hr.mono (by decide)) T.m_wave T.F_wave.kp T.b_wave (macons (mmeth0 T.cl_Keeper (by decide +kernel) T.me_Keeper_table G_Keeper_table (hr.mono (by decide)) T.b_Keeper_table (mv 0)) (macons (mfld T.cl_Keeper fl_Keeper__many_beats T.na_Keeper__many_beats (mv 0)) manil))) manil))) (mgn 2 sc_Keeper_beat.nd) (mbcons (msasg (mpopAt (mdg (hu1 hr) (mfld T.cl_Keeper fl_Keeper__standing T.na_Keeper__standing (mv 0)) (mv 2)) mi) (mgt (n := 2) rfl (mgscons (mgn 3 sc_Keeper_beat.nd) (mgscons (mgn 4 sc_Keeper_beat.nd) mgsnil))))
    (mbone (msexpr (mapp (mv 1) (mtup (macons (mv 3) (macons (mop mo_sub (mfld T.cl_Keeper fl_Keeper__many_beats T.na_Keeper__many_beats (mv 0)) (mv 4)) manil))))))) PassesOwn.never)
    (mbcons (msfa in_add T.cl_Keeper fl_Keeper__many_beats T.na_Keeper__many_beats (mv 0) mi)
    (mbone (msret (mv 1))))))) (fun as h QV hl hs => match as, hl with | [x0], _ => hS x0 h QV hs)
def bd_Keeper_beats (c_Keeper : Addr) : GS := (gRet (gFld c_Keeper FS_Keeper 2 (gV 0)))
theorem ok_Keeper_beats (T : Gs K mg) {S : GC} 
    (hS : ∀ (x0 : VV) (h : VH) (QV : R → VH → Prop), S [x0] h QV → bd_Keeper_beats T.c_Keeper { nx := fun _ h' => fin h.length QV (.val .non) h', rt := fin h.length QV } [some x0] h) :
    Ok P w K mg base 1 T.a_Keeper_beats T.d_Keeper_beats P_Keeper_beats S :=
  def_ok (g := bd_Keeper_beats T.c_Keeper) T.F_Keeper_beats sc_Keeper_beats (fun cdv A outer s H E hr =>
    (mbone (msret (mfld T.cl_Keeper fl_Keeper__many_beats T.na_Keeper__many_beats (mv 0))))) (fun as h QV hl hs => match as, hl with | [x0], _ => hS x0 h QV hs)
def bd_Keeper_waiting (c_Keeper : Addr) (S_check_lines : GC) : GS := (gSeq (gDrop (gCallD 3 S_check_lines (VL.gCons (gFld c_Keeper FS_Keeper 0 (gV 0)) (VL.gCons (gV 1) (VL.gCons (gV 2) gNil)))))
    (gRet (gLc (giS (gDG (gFld c_Keeper FS_Keeper 3 (gV 0)) (gTup (VL.gCons (gV 1) (VL.gCons (gV 2) gNil))))) (gtN 3) gYes (gB goIx (gV 3) (gC (.int 0))) [3])))
theorem ok_Keeper_waiting (T : Gs K mg) {S_check_lines : GC} {S : GC} (G_check_lines : Ok P w K mg base 4 T.a_check_lines T.d_check_lines P_check_lines S_check_lines)
    (hS : ∀ (x0 x1 x2 : VV) (h : VH) (QV : R → VH → Prop), S [x0, x1, x2] h QV → bd_Keeper_waiting T.c_Keeper S_check_lines { nx := fun _ h' => fin h.length QV (.val .non) h', rt := fin h.length QV } [some x0, some x1, some x2, none] h) :
    Ok P w K mg base 5 T.a_Keeper_waiting T.d_Keeper_waiting P_Keeper_waiting S :=
  def_ok (g := bd_Keeper_waiting T.c_Keeper S_check_lines) T.F_Keeper_waiting sc_Keeper_waiting (fun cdv A outer s H E hr =>
    (mbcons (msexpr (mcall G_check_lines (hr.mono (by decide)) T.m_check_lines T.F_check_lines.kp T.b_check_lines (macons (mfld T.cl_Keeper fl_Keeper__n T.na_Keeper__n (mv 0)) (macons (mv 1) (macons (mv 2) manil)))))
    (mbone (msret (mlc (own := [("piece", 3)]) sc_Keeper_waiting.nd (mis (mdg (hu1 hr) (mfld T.cl_Keeper fl_Keeper__standing T.na_Keeper__standing (mv 0)) (mtup (macons (mv 1) (macons (mv 2) manil))))) (blkOk_by (own := [("piece", 3)]) (by kernel_rfl)) (fun _ _ _ _ _ => (mgn 3 sc_Keeper_waiting.nd)) (fun _ _ _ _ _ => mtsnil) (fun _ _ _ _ _ => (mx_ix (mv 3) mi))))))) (fun as h QV hl hs => match as, hl with | [x0, x1, x2], _ => hS x0 x1 x2 h QV hs)
def bd_latest (S_count_at : GC) (S_line_sum : GC) : GS := (gSeq (gSet 3 (gCallD 3 S_count_at (VL.gCons (gV 0) (VL.gCons (gV 1) (VL.gCons (gV 2) gNil)))))
    (gSeq (gIfS (gVal (gB goEq (gV 3) (gC (.int 0)))) (gRet (gC (.int 0))) gNext)
    (gRet (gB goSub (gB goAdd (gCallD 2 S_line_sum (VL.gCons (gV 0) (VL.gCons (gTup (VL.gCons (gC (.int 0)) (VL.gCons (gV 1) gNil))) gNil))) (gCallD 2 S_line_sum (VL.gCons (gV 0) (VL.gCons (gTup (VL.gCons (gC (.int 1)) (VL.gCons (gV 2) gNil))) gNil)))) (gV 3)))))
theorem ok_latest (T : Gs K mg) {S_count_at : GC} {S_line_sum : GC} {S : GC} (G_count_at : Ok P w K mg base 3 T.a_count_at T.d_count_at P_count_at S_count_at) (G_line_sum : Ok P w K mg base 1 T.a_line_sum T.d_line_sum P_line_sum S_line_sum)
    (hS : ∀ (x0 x1 x2 : VV) (h : VH) (QV : R → VH → Prop), S [x0, x1, x2] h QV → bd_latest S_count_at S_line_sum { nx := fun _ h' => fin h.length QV (.val .non) h', rt := fin h.length QV } [some x0, some x1, some x2, none] h) :
    Ok P w K mg base 4 T.a_latest T.d_latest P_latest S :=
  def_ok (g := bd_latest S_count_at S_line_sum) T.F_latest sc_latest (fun cdv A outer s H E hr =>
    (mbcons (msset 3 (mcall G_count_at (hr.mono (by decide)) T.m_count_at T.F_count_at.kp T.b_count_at (macons (mv 0) (macons (mv 1) (macons (mv 2) manil)))) sc_latest.nd)
    (mbcons (msif (mtcmp (mo_eq hr.units) (mv 3) mi) (mbone (msret mi)) mbnil)
    (mbone (msret (mop mo_sub (mop mo_add (mcall G_line_sum (hr.mono (by decide)) T.m_line_sum T.F_line_sum.kp T.b_line_sum (macons (mv 0) (macons (mtup (macons mi (macons (mv 1) manil))) manil))) (mcall G_line_sum (hr.mono (by decide)) T.m_line_sum T.F_line_sum.kp T.b_line_sum (macons (mv 0) (macons (mtup (macons mi (macons (mv 2) manil))) manil)))) (mv 3))))))) (fun as h QV hl hs => match as, hl with | [x0, x1, x2], _ => hS x0 x1 x2 h QV hs)
def bd_u_law_pull : GS := (gSeq (gIfS (gVal (gB goEq (gB goIx (gV 0) (gC (.int 2))) (gC (.int 0)))) (gSeq (gSet 2 (gB goIx (gV 0) (gC (.int 1))))
    (gSeq (gSetI (gB goAdd (gV 2) (gC (.int 1))) (gV 0) (gC (.int 1)))
    (gSeq (gSet 3 (gC (.int 0)))
    (gSeq (gIfS (gVal (gB goNe (gB goIx (gV 0) (gC (.int 0))) (gLst gNil))) (gSet 3 (gB goIx (gB goIx (gV 0) (gC (.int 0))) (gB goMod (gV 2) (gCall1 guLen (gB goIx (gV 0) (gC (.int 0))))))) gNext)
    (gSeq (gIfS (gOr (gVal (gB goGe (gV 2) (gCall1 guLen (gB goIx (gV 0) (gC (.int 0)))))) (gVal (gB goLt (gV 3) (gB goPow (gC (.int 10)) (gC (.int 18)))))) (gSeq (gSet 4 (gB goMod (gB goMul (gB goAdd (gB goMod (gV 3) (gC (.int 999983))) (gC (.int 17))) (gB goAdd (gB goAdd (gB goMul (gV 2) (gV 2)) (gB goMul (gC (.int 101)) (gV 2))) (gC (.int 2003)))) (gC (.int 1000003))))
    (gSeq (gSet 4 (gB goMod (gB goPow (gV 4) (gC (.int 3))) (gC (.int 998244353))))
    (gRet (gB goMod (gB goFdiv (gB goMod (gB goAdd (gV 4) (gB goMul (gC (.int 7919)) (gV 2))) (gC (.int 1000033))) (gC (.int 2))) (gV 1))))) gNext)
    (gSeq (gSetI (gC (.int 25)) (gV 0) (gC (.int 2)))
    (gSetI (gB goSub (gV 3) (gB goPow (gC (.int 10)) (gC (.int 18)))) (gV 0) (gC (.int 3))))))))) gNext)
    (gSeq (gSetI (gB goSub (gB goIx (gV 0) (gC (.int 2))) (gC (.int 1))) (gV 0) (gC (.int 2)))
    (gSeq (gSet 5 (gB goIx (gV 0) (gC (.int 3))))
    (gSeq (gSetI (gB goFdiv (gV 5) (gV 1)) (gV 0) (gC (.int 3)))
    (gRet (gB goMod (gV 5) (gV 1)))))))
theorem ok_u_law_pull (T : Gs K mg) {S : GC} 
    (hS : ∀ (x0 x1 : VV) (h : VH) (QV : R → VH → Prop), S [x0, x1] h QV → bd_u_law_pull  { nx := fun _ h' => fin h.length QV (.val .non) h', rt := fin h.length QV } [some x0, some x1, none, none, none, none] h) :
    Ok P w K mg base 1 T.a_u_law_pull T.d_u_law_pull P_u_law_pull S :=
  def_ok (g := bd_u_law_pull ) T.F_u_law_pull sc_u_law_pull (fun cdv A outer s H E hr =>
    (mbcons (msif (mtcmp (mo_eq hr.units) (mx_ix (mv 0) mi) mi) (mbcons (msset 2 (mx_ix (mv 0) mi) sc_u_law_pull.nd)
    (mbcons (msseti (mop mo_add (mv 2) mi) (mv 0) mi)
    (mbcons (msset 3 mi sc_u_law_pull.nd)
    (mbcons (msif (mtcmp (mo_ne hr.units) (mx_ix (mv 0) mi) (mlst manil)) (mbone (msset 3 (mx_ix (mx_ix (mv 0) mi) (mop mo_mod (mv 2) (mcb1 mc_len T.z_len (by decide +kernel) (mx_ix (mv 0) mi)))) sc_u_law_pull.nd)) mbnil)
    (mbcons (msif (mtw (mwor (mtcmp mo_ge (mv 2) (mcb1 mc_len T.z_len (by decide +kernel) (mx_ix (mv 0) mi))) (mwor1 (mtcmp mo_lt (mv 3) (mop mo_pow mi mi))))) (mbcons (msset 4 (mop mo_mod (mop mo_mul (mop mo_add (mop mo_mod (mv 3) mi) mi) (mop mo_add (mop mo_add (mop mo_mul (mv 2) (mv 2)) (mop mo_mul mi (mv 2))) mi)) mi) sc_u_law_pull.nd)
    (mbcons (msset 4 (mop mo_mod (mop mo_pow (mv 4) mi) mi) sc_u_law_pull.nd)
    (mbone (msret (mop mo_mod (mop mo_fdiv (mop mo_mod (mop mo_add (mv 4) (mop mo_mul mi (mv 2))) mi) mi) (mv 1)))))) mbnil)
    (mbcons (msseti mi (mv 0) mi)
    (mbone (msseti (mop mo_sub (mv 3) (mop mo_pow mi mi)) (mv 0) mi)))))))) mbnil)
    (mbcons (msseti (mop mo_sub (mx_ix (mv 0) mi) mi) (mv 0) mi)
    (mbcons (msset 5 (mx_ix (mv 0) mi) sc_u_law_pull.nd)
    (mbcons (msseti (mop mo_fdiv (mv 5) (mv 1)) (mv 0) mi)
    (mbone (msret (mop mo_mod (mv 5) (mv 1))))))))) (fun as h QV hl hs => match as, hl with | [x0, x1], _ => hS x0 x1 h QV hs)
def bd_u_law_taken (c_Keeper : Addr) (S_Keeper_table : GC) (S_Keeper_beat : GC) (S_is_full : GC) : GS := (gSeq (gSet 4 (gMeth c_Keeper FS_Keeper 0 S_Keeper_table (gV 0) gNil))
    (gSeq (gSet 5 (gB goMul (gLst (VL.gCons (gC .non) gNil)) (gV 1)))
    (gSeq (gFor (giS (gMeth c_Keeper FS_Keeper 0 S_Keeper_beat (gV 0) gNil)) (gtT 2 (gtCons (gtN 6) (gtCons (gtN 7) gtNil))) (gSeq (gAsg (gtT 3 (gtCons (gtN 8) (gtCons (gtN 9) (gtCons (gtN 10) gtNil)))) (gB goIx (gV 2) (gV 6)))
    (gSeq (gIfS (gOr (gVal (gB goGe (gV 7) (gB goMul (gV 1) (gV 10)))) (gVal (gB goIsNot (gB goIx (gV 5) (gV 8)) (gC .non)))) (gRet (gC (.bl false))) gNext)
    (gSeq (gSetI (gV 9) (gV 5) (gV 8))
    (gDrop (gApp (gDG (gV 3) (gTup (VL.gCons (gV 8) (VL.gCons (gV 9) gNil)))) (gV 6)))))))
    (gRet (gB goIs (gCallD 2 S_is_full (VL.gCons (gV 4) (VL.gCons (gCall1 guTuple (gV 5)) gNil))) (gC (.bl true)))))))
theorem ok_u_law_taken (T : Gs K mg) {S_Keeper_table : GC} {S_Keeper_beat : GC} {S_is_full : GC} {S : GC} (G_Keeper_table : Ok P w K mg base 2 T.a_Keeper_table T.d_Keeper_table P_Keeper_table S_Keeper_table) (G_Keeper_beat : Ok P w K mg base 3 T.a_Keeper_beat T.d_Keeper_beat P_Keeper_beat S_Keeper_beat) (G_is_full : Ok P w K mg base 5 T.a_is_full T.d_is_full P_is_full S_is_full)
    (hS : ∀ (x0 x1 x2 x3 : VV) (h : VH) (QV : R → VH → Prop), S [x0, x1, x2, x3] h QV → bd_u_law_taken T.c_Keeper S_Keeper_table S_Keeper_beat S_is_full { nx := fun _ h' => fin h.length QV (.val .non) h', rt := fin h.length QV } [some x0, some x1, some x2, some x3, none, none, none, none, none, none, none] h) :
    Ok P w K mg base 6 T.a_u_law_taken T.d_u_law_taken P_u_law_taken S :=
  def_ok (g := bd_u_law_taken T.c_Keeper S_Keeper_table S_Keeper_beat S_is_full) T.F_u_law_taken sc_u_law_taken (fun cdv A outer s H E hr =>
    (mbcons (msset 4 (mmeth0 T.cl_Keeper (by decide +kernel) T.me_Keeper_table G_Keeper_table (hr.mono (by decide)) T.b_Keeper_table (mv 0)) sc_u_law_taken.nd)
    (mbcons (msset 5 (mop mo_mul (mlst (macons mn manil)) (mv 1)) sc_u_law_taken.nd)
    (mbcons (msfor (mis (mmeth0 T.cl_Keeper (by decide +kernel) T.me_Keeper_beat G_Keeper_beat (hr.mono (by decide)) T.b_Keeper_beat (mv 0))) (mgt (n := 2) rfl (mgscons (mgn 6 sc_u_law_taken.nd) (mgscons (mgn 7 sc_u_law_taken.nd) mgsnil))) (mbcons (msasg (mx_ix (mv 2) (mv 6)) (mgt (n := 3) rfl (mgscons (mgn 8 sc_u_law_taken.nd) (mgscons (mgn 9 sc_u_law_taken.nd) (mgscons (mgn 10 sc_u_law_taken.nd) mgsnil)))))
    (mbcons (msif (mtw (mwor (mtcmp mo_ge (mv 7) (mop mo_mul (mv 1) (mv 10))) (mwor1 (mtcmp mo_isnot (mx_ix (mv 5) (mv 8)) mn)))) (mbone (msret mb)) mbnil)
    (mbcons (msseti (mv 9) (mv 5) (mv 8))
    (mbone (msexpr (mapp (mdg (hu1 hr) (mv 3) (mtup (macons (mv 8) (macons (mv 9) manil)))) (mv 6))))))) PassesOwn.never)
    (mbone (msret (mcmp mo_is (mcall G_is_full (hr.mono (by decide)) T.m_is_full T.F_is_full.kp T.b_is_full (macons (mv 4) (macons (mct1 mc_tuple T.z_tuple (by decide +kernel) (mv 5)) manil))) mb))))))) (fun as h QV hl hs => match as, hl with | [x0, x1, x2, x3], _ => hS x0 x1 x2 x3 h QV hs)
def bd_law (c_Keeper : Addr) (S_u_law_pull : GC) (S_Keeper___init__ : GC) (S_Keeper_waiting : GC) (S_Keeper_come : GC) (S_u_law_taken : GC) (S_Keeper_table : GC) (S_latest : GC) : GS := (gSeq (gSet 1 (gLst (VL.gCons (gCall1 guList (gSl (gV 0) gpN (gpS (gC (.int 63))))) (VL.gCons (gC (.int 0)) (VL.gCons (gC (.int 0)) (VL.gCons (gC (.int 0)) gNil))))))
    (gSeq (gSet 2 (gB goAdd (gC (.int 2)) (gCallD 2 S_u_law_pull (VL.gCons (gV 1) (VL.gCons (gC (.int 5)) gNil)))))
    (gSeq (gSet 3 (gMake c_Keeper FS_Keeper 1 S_Keeper___init__ (VL.gCons (gV 2) gNil)))
    (gSeq (gSet 4 (gLst gNil))
    (gSeq (gSet 6 (gCall1 guDictPT (gLc (giR1 (gB goMul (gV 2) (gV 2))) (gtN 5) gYes (gTup (VL.gCons (gTup (VL.gCons (gB goFdiv (gV 5) (gV 2)) (VL.gCons (gB goMod (gV 5) (gV 2)) gNil))) (VL.gCons (gLst gNil) gNil))) [5])))
    (gSeq (gSet 7 (gTup (VL.gCons (gCallD 2 S_u_law_pull (VL.gCons (gV 1) (VL.gCons (gV 2) gNil))) (VL.gCons (gCallD 2 S_u_law_pull (VL.gCons (gV 1) (VL.gCons (gV 2) gNil))) gNil))))
    (gSeq (gFor (giR1 (gB goAdd (gC (.int 1)) (gCallD 2 S_u_law_pull (VL.gCons (gV 1) (VL.gCons (gC (.int 12)) gNil))))) (gtN 5) (gSeq (gFor (giR1 (gCallD 2 S_u_law_pull (VL.gCons (gV 1) (VL.gCons (gC (.int 6)) gNil)))) (gtN 8) (gSeq (gAsg (gtT 2 (gtCons (gtN 9) (gtCons (gtN 10) gtNil))) (gB goIx (gLst (VL.gCons (gV 7) (VL.gCons (gTup (VL.gCons (gCallD 2 S_u_law_pull (VL.gCons (gV 1) (VL.gCons (gV 2) gNil))) (VL.gCons (gCallD 2 S_u_law_pull (VL.gCons (gV 1) (VL.gCons (gV 2) gNil))) gNil))) gNil))) (gCallD 2 S_u_law_pull (VL.gCons (gV 1) (VL.gCons (gC (.int 2)) gNil)))))
    (gSeq (gDrop (gApp (gV 4) (gTup (VL.gCons (gV 9) (VL.gCons (gV 10) (VL.gCons (gB goAdd (gCall1 guLen (gMeth c_Keeper FS_Keeper 2 S_Keeper_waiting (gV 3) (VL.gCons (gV 9) (VL.gCons (gV 10) gNil)))) (gC (.int 1))) gNil))))))
    (gIfS (gVal (gB goNe (gMeth c_Keeper FS_Keeper 2 S_Keeper_come (gV 3) (VL.gCons (gV 9) (VL.gCons (gV 10) gNil))) (gB goSub (gCall1 guLen (gV 4)) (gC (.int 1))))) (gRet (gC (.bl false))) gNext))))
    (gSeq (gIfS (gNot (gTru (gCallD 4 S_u_law_taken (VL.gCons (gV 3) (VL.gCons (gV 2) (VL.gCons (gV 4) (VL.gCons (gV 6) gNil))))))) (gRet (gC (.bl false))) gNext)
    (gLk (gIfS (gVal (gB goNe (gCall1 guSumS (gLc (giS (gMeth c_Keeper FS_Keeper 0 S_Keeper_table (gV 3) gNil)) (gtN 14) gYes (gCall1 guSumS (gV 14)) [14])) (gB goSub (gCall1 guLen (gV 4)) (gCall1 guSumS (gLc (giKA (gV 6)) (gtN 15) gYes (gCall1 guLen (gDG (gV 6) (gV 15))) [15]))))) (gRet (gC (.bl false))) gNext)))))
    (gSeq (gSet 11 (gMeth c_Keeper FS_Keeper 0 S_Keeper_table (gV 3) gNil))
    (gSeq (gSet 12 (gCall1 guMaxS (gLc (giR1 (gB goMul (gV 2) (gV 2))) (gtN 5) gYes (gCallD 3 S_latest (VL.gCons (gV 11) (VL.gCons (gB goFdiv (gV 5) (gV 2)) (VL.gCons (gB goMod (gV 5) (gV 2)) gNil)))) [5])))
    (gSeq (gFor (giR1 (gV 12)) (gtN 5) (gSeq (gSet 13 (gCall1 guSumS (gLc (giS (gMeth c_Keeper FS_Keeper 0 S_Keeper_table (gV 3) gNil)) (gtN 14) gYes (gCall1 guSumS (gV 14)) [14])))
    (gSeq (gIfS (gNot (gTru (gCallD 4 S_u_law_taken (VL.gCons (gV 3) (VL.gCons (gV 2) (VL.gCons (gV 4) (VL.gCons (gV 6) gNil))))))) (gRet (gC (.bl false))) gNext)
    (gIfS (gAnd (gVal (gB goGt (gV 13) (gC (.int 0)))) (gVal (gB goGe (gCall1 guSumS (gLc (giS (gMeth c_Keeper FS_Keeper 0 S_Keeper_table (gV 3) gNil)) (gtN 14) gYes (gCall1 guSumS (gV 14)) [14])) (gV 13)))) (gRet (gC (.bl false))) gNext))))
    (gSeq (gIfS (gVal (gB goNe (gCall1 guSumS (gLc (giS (gMeth c_Keeper FS_Keeper 0 S_Keeper_table (gV 3) gNil)) (gtN 14) gYes (gCall1 guSumS (gV 14)) [14])) (gC (.int 0)))) (gRet (gC (.bl false))) gNext)
    (gSeq (gForD (gV 6) (gtT 2 (gtCons (gtN 9) (gtCons (gtN 10) gtNil))) (gIfS (gVal (gB goNe (gDG (gV 6) (gTup (VL.gCons (gV 9) (VL.gCons (gV 10) gNil)))) (gLc (giR1 (gCall1 guLen (gV 4))) (gtN 5) (gVal (gB goEq (gSl (gB goIx (gV 4) (gV 5)) gpN (gpS (gC (.int 2)))) (gTup (VL.gCons (gV 9) (VL.gCons (gV 10) gNil))))) (gV 5) [5]))) (gRet (gC (.bl false))) gNext))
    (gRet (gC (.bl true)))))))))))))))
theorem ok_law (T : Gs K mg) {S_u_law_pull : GC} {S_Keeper___init__ : GC} {S_Keeper_waiting : GC} {S_Keeper_come : GC} {S_u_law_taken : GC} {S_Keeper_table : GC} {S_latest : GC} {S : GC} (G_u_law_pull : Ok P w K mg base 1 T.a_u_law_pull T.d_u_law_pull P_u_law_pull S_u_law_pull) (G_Keeper___init__ : Ok P w K mg base 2 T.a_Keeper___init__ T.d_Keeper___init__ P_Keeper___init__ S_Keeper___init__) (G_Keeper_waiting : Ok P w K mg base 5 T.a_Keeper_waiting T.d_Keeper_waiting P_Keeper_waiting S_Keeper_waiting) (G_Keeper_come : Ok P w K mg base 5 T.a_Keeper_come T.d_Keeper_come P_Keeper_come S_Keeper_come) (G_u_law_taken : Ok P w K mg base 6 T.a_u_law_taken T.d_u_law_taken P_u_law_taken S_u_law_taken) (G_Keeper_table : Ok P w K mg base 2 T.a_Keeper_table T.d_Keeper_table P_Keeper_table S_Keeper_table) (G_latest : Ok P w K mg base 4 T.a_latest T.d_latest P_latest S_latest)
    (hS : ∀ (x0 : VV) (h : VH) (QV : R → VH → Prop), S [x0] h QV → bd_law T.c_Keeper S_u_law_pull S_Keeper___init__ S_Keeper_waiting S_Keeper_come S_u_law_taken S_Keeper_table S_latest { nx := fun _ h' => fin h.length QV (.val .non) h', rt := fin h.length QV } [some x0, none, none, none, none, none, none, none, none, none, none, none, none, none, none, none] h) :
    Ok P w K mg base 7 T.a_law T.d_law P_law S :=
  def_ok (g := bd_law T.c_Keeper S_u_law_pull S_Keeper___init__ S_Keeper_waiting S_Keeper_come S_u_law_taken S_Keeper_table S_latest) T.F_law sc_law (fun cdv A outer s H E hr =>
    (mbcons (msset 1 (mlst (macons (mct1 mc_list T.z_list (by decide +kernel) (msl (mv 0) mpn (mps mi))) (macons mi (macons mi (macons mi manil))))) sc_law.nd)
    (mbcons (msset 2 (mop mo_add mi (mcall G_u_law_pull (hr.mono (by decide)) T.m_u_law_pull T.F_u_law_pull.kp T.b_u_law_pull (macons (mv 1) (macons mi manil)))) sc_law.nd)
    (mbcons (msset 3 (mmake T.mk_Keeper G_Keeper___init__ (hr.mono (by decide)) T.mg_Keeper T.b_Keeper___init__ (macons (mv 2) manil)) sc_law.nd)
    (mbcons (msset 4 (mlst manil) sc_law.nd)
    (mbcons (msset 6 (mct1 (mc_dictPT (hu65 hr)) T.z_dict (by decide +kernel) (mlc (own := [("k", 5)]) sc_law.nd (mir1 T.z_range (mop mo_mul (mv 2) (mv 2))) (blkOk_by (own := [("k", 5)]) (by kernel_rfl)) (fun _ _ _ _ _ => (mgn 5 sc_law.nd)) (fun _ _ _ _ _ => mtsnil) (fun _ _ _ _ _ => (mtup (macons (mtup (macons (mop mo_fdiv (mv 5) (mv 2)) (macons (mop mo_mod (mv 5) (mv 2)) manil))) (macons (mlst manil) manil)))))) sc_law.nd)
    (mbcons (msset 7 (mtup (macons (mcall G_u_law_pull (hr.mono (by decide)) T.m_u_law_pull T.F_u_law_pull.kp T.b_u_law_pull (macons (mv 1) (macons (mv 2) manil))) (macons (mcall G_u_law_pull (hr.mono (by decide)) T.m_u_law_pull T.F_u_law_pull.kp T.b_u_law_pull (macons (mv 1) (macons (mv 2) manil))) manil))) sc_law.nd)
    (mbcons (msfor (mir1 T.z_range (mop mo_add mi (mcall G_u_law_pull (hr.mono (by decide)) T.m_u_law_pull T.F_u_law_pull.kp T.b_u_law_pull (macons (mv 1) (macons mi manil))))) (mgn 5 sc_law.nd) (mbcons (msfor (mir1 T.z_range (mcall G_u_law_pull (hr.mono (by decide)) T.m_u_law_pull T.F_u_law_pull.kp T.b_u_law_pull (macons (mv 1) (macons mi manil)))) (mgn 8 sc_law.nd) (mbcons (msasg (mx_ix (mlst (macons (mv 7) (macons (mtup (macons (mcall G_u_law_pull (hr.mono (by decide)) T.m_u_law_pull T.F_u_law_pull.kp T.b_u_law_pull (macons (mv 1) (macons (mv 2) manil))) (macons (mcall G_u_law_pull (hr.mono (by decide)) T.m_u_law_pull T.F_u_law_pull.kp T.b_u_law_pull (macons (mv 1) (macons (mv 2) manil))) manil))) manil))) (mcall G_u_law_pull (hr.mono (by decide)) T.m_u_law_pull T.F_u_law_pull.kp T.b_u_law_pull (macons (mv 1) (macons mi manil)))) (mgt (n := 2) rfl (mgscons (mgn 9 sc_law.nd) (mgscons (mgn 10 sc_law.nd) mgsnil))))
    (mbcons (msexpr (mapp (mv 4) (mtup (macons (mv 9) (macons (mv 10) (macons (mop mo_add (mcb1 mc_len T.z_len (by decide +kernel) (mmeth T.cl_Keeper (by decide +kernel) T.me_Keeper_waiting G_Keeper_waiting (hr.mono (by decide)) T.b_Keeper_waiting (mv 3) (macons (mv 9) (macons (mv 10) manil)))) mi) manil))))))
    (mbone (msif (mtcmp (mo_ne hr.units) (mmeth T.cl_Keeper (by decide +kernel) T.me_Keeper_come G_Keeper_come (hr.mono (by decide)) T.b_Keeper_come (mv 3) (macons (mv 9) (macons (mv 10) manil))) (mop mo_sub (mcb1 mc_len T.z_len (by decide +kernel) (mv 4)) mi)) (mbone (msret mb)) mbnil)))) PassesOwn.never)
    (mbcons (msif (mtnot (mtt (mcall G_u_law_taken (hr.mono (by decide)) T.m_u_law_taken T.F_u_law_taken.kp T.b_u_law_taken (macons (mv 3) (macons (mv 2) (macons (mv 4) (macons (mv 6) manil))))))) (mbone (msret mb)) mbnil)
    (mbone (msLk (msif (mtcmp (mo_ne hr.units) (mcb1 mc_sumS T.z_sum (by decide +kernel) (mlc (own := [("row", 14)]) sc_law.nd (mis (mmeth0 T.cl_Keeper (by decide +kernel) T.me_Keeper_table G_Keeper_table (hr.mono (by decide)) T.b_Keeper_table (mv 3))) (blkOk_by (own := [("row", 14)]) (by kernel_rfl)) (fun _ _ _ _ _ => (mgn 14 sc_law.nd)) (fun _ _ _ _ _ => mtsnil) (fun _ _ _ _ _ => (mcb1 mc_sumS T.z_sum (by decide +kernel) (mv 14))))) (mop mo_sub (mcb1 mc_len T.z_len (by decide +kernel) (mv 4)) (mcb1 mc_sumS T.z_sum (by decide +kernel) (mlc (own := [("cell", 15)]) sc_law.nd (miKA (mv 6)) (blkOk_by (own := [("cell", 15)]) (by kernel_rfl)) (fun _ _ _ _ _ => (mgn 15 sc_law.nd)) (fun _ _ _ _ _ => mtsnil) (fun _ _ _ _ _ => (mcb1 mc_len T.z_len (by decide +kernel) (mdg (hu1 hr) (mv 6) (mv 15)))))))) (mbone (msret mb)) mbnil))))) PassesOwn.never)
    (mbcons (msset 11 (mmeth0 T.cl_Keeper (by decide +kernel) T.me_Keeper_table G_Keeper_table (hr.mono (by decide)) T.b_Keeper_table (mv 3)) sc_law.nd)
    (mbcons (msset 12 (mcb1 mc_maxS T.z_max (by decide +kernel) (mlc (own := [("k", 5)]) sc_law.nd (mir1 T.z_range (mop mo_mul (mv 2) (mv 2))) (blkOk_by (own := [("k", 5)]) (by kernel_rfl)) (fun _ _ _ _ _ => (mgn 5 sc_law.nd)) (fun _ _ _ _ _ => mtsnil) (fun _ _ _ _ _ => (mcall G_latest (hr.mono (by decide)) T.m_latest T.F_latest.kp T.b_latest (macons (mv 11) (macons (mop mo_fdiv (mv 5) (mv 2)) (macons (mop mo_mod (mv 5) (mv 2)) manil))))))) sc_law.nd)
    (mbcons (msfor (mir1 T.z_range (mv 12)) (mgn 5 sc_law.nd) (mbcons (msset 13 (mcb1 mc_sumS T.z_sum (by decide +kernel) (mlc (own := [("row", 14)]) sc_law.nd (mis (mmeth0 T.cl_Keeper (by decide +kernel) T.me_Keeper_table G_Keeper_table (hr.mono (by decide)) T.b_Keeper_table (mv 3))) (blkOk_by (own := [("row", 14)]) (by kernel_rfl)) (fun _ _ _ _ _ => (mgn 14 sc_law.nd)) (fun _ _ _ _ _ => mtsnil) (fun _ _ _ _ _ => (mcb1 mc_sumS T.z_sum (by decide +kernel) (mv 14))))) sc_law.nd)
    (mbcons (msif (mtnot (mtt (mcall G_u_law_taken (hr.mono (by decide)) T.m_u_law_taken T.F_u_law_taken.kp T.b_u_law_taken (macons (mv 3) (macons (mv 2) (macons (mv 4) (macons (mv 6) manil))))))) (mbone (msret mb)) mbnil)
    (mbone (msif (mtw (mwand (mtcmp mo_gt (mv 13) mi) (mwand1 (mtcmp mo_ge (mcb1 mc_sumS T.z_sum (by decide +kernel) (mlc (own := [("row", 14)]) sc_law.nd (mis (mmeth0 T.cl_Keeper (by decide +kernel) T.me_Keeper_table G_Keeper_table (hr.mono (by decide)) T.b_Keeper_table (mv 3))) (blkOk_by (own := [("row", 14)]) (by kernel_rfl)) (fun _ _ _ _ _ => (mgn 14 sc_law.nd)) (fun _ _ _ _ _ => mtsnil) (fun _ _ _ _ _ => (mcb1 mc_sumS T.z_sum (by decide +kernel) (mv 14))))) (mv 13))))) (mbone (msret mb)) mbnil)))) PassesOwn.never)
    (mbcons (msif (mtcmp (mo_ne hr.units) (mcb1 mc_sumS T.z_sum (by decide +kernel) (mlc (own := [("row", 14)]) sc_law.nd (mis (mmeth0 T.cl_Keeper (by decide +kernel) T.me_Keeper_table G_Keeper_table (hr.mono (by decide)) T.b_Keeper_table (mv 3))) (blkOk_by (own := [("row", 14)]) (by kernel_rfl)) (fun _ _ _ _ _ => (mgn 14 sc_law.nd)) (fun _ _ _ _ _ => mtsnil) (fun _ _ _ _ _ => (mcb1 mc_sumS T.z_sum (by decide +kernel) (mv 14))))) mi) (mbone (msret mb)) mbnil)
    (mbcons (msforD (mv 6) (mgt (n := 2) rfl (mgscons (mgn 9 sc_law.nd) (mgscons (mgn 10 sc_law.nd) mgsnil))) (mbone (msif (mtcmp (mo_ne hr.units) (mdg (hu1 hr) (mv 6) (mtup (macons (mv 9) (macons (mv 10) manil)))) (mlc (own := [("k", 5)]) sc_law.nd (mir1 T.z_range (mcb1 mc_len T.z_len (by decide +kernel) (mv 4))) (blkOk_by (own := [("k", 5)]) (by kernel_rfl)) (fun _ _ _ _ _ => (mgn 5 sc_law.nd)) (fun _ _ _ _ _ => (mtsone (mtcmp (mo_eq hr.units) (msl (mx_ix (mv 4) (mv 5)) mpn (mps mi)) (mtup (macons (mv 9) (macons (mv 10) manil)))))) (fun _ _ _ _ _ => (mv 5)))) (mbone (msret mb)) mbnil)) PassesOwn.never)
    (mbone (msret mb))))))))))))))) (fun as h QV hl hs => match as, hl with | [x0], _ => hS x0 h QV hs)
end
end Tx

set_option exponentiation.threshold 1000
namespace My
open PySem L2 VL Tx
local macro_rules | `(tactic| walk_at "sE") => `(tactic| first | rfl | assumption | exact seqB | exact snoc_get | exact th_get1 | exact th_get2 | exact th_get3 | exact th_seq1 | exact th_seq2 | exact th_seq3 | (simp only [*]; done))
local macro_rules | `(tactic| walk_at "s0") => `(tactic| with_reducible first
  | refine t_seqSet ?_ | refine t_seqI ?_ | refine t_seqD ?_ | refine t_seqA ?_ | refine t_seqF ?_ | refine t_seqP ?_ | refine t_set ?_ | refine t_B ?_ | refine t_C ?_ | refine t_ifS ?_ | refine t_val ?_ | refine t_kval ?_ | refine t_ret ?_ | refine t_retn ?_ | refine t_drop ?_ | refine t_next ?_
  | refine t_call1 ?_ | refine t_callD ?_ | refine t_call ?_ | refine t_cons ?_ | refine t_nil ?_ | refine t_tup ?_ | refine t_lst ?_ | refine t_U ?_ | refine t_not ?_ | refine t_and ?_ | refine t_or ?_
  | refine t_if ?_ | refine t_andV ?_ | refine t_orV ?_ | refine t_notV ?_ | refine t_kand ?_ | refine t_kor ?_ | refine t_knot ?_ | refine t_ch ?_ | refine t_kch ?_ | refine t_iteT ?_ | refine t_iteF ?_
  | refine t_addI ?_ | refine t_subI ?_ | refine t_pow18 ?_ | refine t_lt ?_ | refine t_le ?_ | refine t_gt ?_ | refine t_ge ?_ | refine t_neg ?_ | refine t_isB ?_ | refine t_isnotB ?_ | refine t_isN ?_ | refine t_isnotN ?_ | refine t_eqI ?_ | refine t_neI ?_
  | refine t_min2 ?_ | refine t_max2 ?_ | refine t_setI ?_ | refine t_app ?_ | refine t_join ?_ | refine t_kjoin ?_ | refine t_split ?_ | refine t_ksplit ?_ | refine t_m0 ?_ | refine t_km0 ?_ | refine t_starts ?_ | refine t_kst ?_ | refine t_kst2 ?_ | refine t_ins ?_ | refine t_lr ?_ | refine t_sl ?_ | refine t_ksT ?_ | refine t_ksR ?_ | refine t_pN ?_ | refine t_pS ?_ | refine t_kp ?_ | refine t_for ?_ | refine t_r1 ?_ | refine t_s ?_ | refine t_e ?_
  | refine t_gtN ?_ | refine t_gtC ?_ | refine t_gtE ?_ | refine t_yes ?_ | refine t_lc ?_ | refine t_brk ?_ | refine t_cnt ?_ | refine t_asg ?_)
local macro_rules | `(tactic| walk_at "s1") => `(tactic| first
  | walk_at "s0"
  | ((with_reducible apply t_V); (rfl))
  | ((with_reducible apply t_putV); (try simp only [List.set_cons_succ, List.set_cons_zero, Int.reduceToNat]))
  | ((with_reducible apply t_putN); (try simp only [List.set_cons_succ, List.set_cons_zero, Int.reduceToNat, th_app, th_len]))
  | ((with_reducible apply t_len); (rfl))
  | ((with_reducible apply t_sz); (first | decide | (focus (simp; done)) | (focus (simp; omega))))
  | ((with_reducible apply t_gtT); (rfl))
  | ((with_reducible apply t_modI); (first | omega | assumption))
  | ((with_reducible apply t_mulI); ((refine Or.inl ?_; unfold CMul; omega)))
  | ((with_reducible apply t_powI); ((unfold CPow; omega)))
  | ((with_reducible apply t_divI); (exact divW (by omega) (by omega)))
  | ((with_reducible apply t_klr); (omega))
  | ((with_reducible apply t_kr1); (omega))
  | ((with_reducible apply t_ix); ((intro _ hh; cases hh)); (walk_at "sE"); (walk_at "sE"))
  | ((with_reducible apply t_lenS); ((intro _ hh; cases hh)); (walk_at "sE"))
  | ((with_reducible apply t_sum); (walk_at "sE"))
  | ((with_reducible apply t_list); (walk_at "sE"))
  | ((with_reducible apply t_tuple); (walk_at "sE"); (rfl))
  | ((with_reducible apply t_ks); (walk_at "sE"))
  | ((with_reducible apply t_ke); (walk_at "sE"))
  | ((with_reducible apply t_isi); (walk_at "sE"))
  | ((with_reducible apply t_kset); (walk_at "sE"); (walk_at "sE"); (try simp only [List.set_cons_succ, List.set_cons_zero, Int.reduceToNat, th_set1, th_set2]))
  | ((with_reducible apply t_kapp); (walk_at "sE"))
  | ((with_reducible apply t_kins); (walk_at "sE"))
  | ((with_reducible apply t_kapp2); (walk_at "sE"); (refine Nat.lt_of_le_of_lt (?_ : _ ≤ 1000) (by decide)); (first | decide | omega | (simp only [List.length_map, List.length_append, List.length_nil, List.length_cons]; omega)); (try simp only [th_set1, th_set2, List.nil_append]))
  | (rw [Bool.not_true])
  | (rw [Bool.not_false])
  | (dsimp only))
local macro_rules | `(tactic| walk_at "s") => `(tactic| repeat walk_at "s1")
local macro_rules | `(tactic| walk_at "s1") => `(tactic| with_reducible first | refine t_tru ?_ | refine t_ktruB ?_ | refine t_ktruN ?_ | refine t_ktruI ?_)
local macro_rules | `(tactic| walk_at "s1") => `(tactic| first | rw [show subTy "list" "list" = true from rfl] | rw [show subTy "tuple" "tuple" = true from rfl] | rw [show subTy "str" "str" = true from rfl])
local macro_rules | `(tactic| walk_at "s1") => `(tactic| with_reducible first | refine t_dg ?_ | refine t_di ?_ | refine t_dp ?_ | refine t_seqDP ?_ | refine t_dnT ?_)
local macro_rules | `(tactic| walk_at "s1") => `(tactic| with_reducible first | refine t_fld ?_ | refine t_seqFS ?_ | refine t_fs ?_ | refine t_seqFA ?_ | refine t_fa ?_ | refine t_meth ?_ | refine t_make ?_ | refine t_dget2 ?_ | refine t_dpop ?_ | refine t_seqDDel ?_ | refine t_ddel ?_ | refine t_seqDDelT ?_ | refine t_ddelT ?_ | refine t_disp ?_ | refine t_lsetP ?_)
local macro_rules | `(tactic| walk_at "s1") => `(tactic| ((with_reducible apply t_kfld); (walk_at "sE"); (rfl)))
local macro_rules | `(tactic| walk_at "s1") => `(tactic| with_reducible first | refine t_seqDE ?_ | refine t_seqSE ?_ | refine t_seqTK ?_ | refine t_dropE ?_ | refine t_retE ?_ | refine t_setE ?_ | refine t_callE ?_ | refine t_methE ?_ | refine t_tryK ?_ | refine t_isq ?_ | refine t_isqT ?_ | refine t_exc ?_ | refine t_xf ?_ | refine t_raise ?_)
local macro_rules | `(tactic| walk_at "s1") => `(tactic| with_reducible first | refine t_seqSls ?_ | refine t_slset ?_)
local macro_rules | `(tactic| walk_at "s1") => `(tactic| with_reducible first | refine t_txt ?_ | refine t_ktxt ?_)
local macro_rules | `(tactic| walk_at "s1") => `(tactic| with_reducible first | refine t_eqT ?_ | refine t_neT ?_)
local macro_rules | `(tactic| walk_at "s1") => `(tactic| with_reducible first | refine t_seqTO ?_ | refine t_tryO ?_ | refine t_min3 ?_)
local macro_rules | `(tactic| walk_at "s1") => `(tactic| with_reducible first | refine t_seqTH ?_ | refine t_tryH ?_ | refine t_lcntF ?_ | refine t_seqLk ?_)

def sIsW : GC := fun as h Q => ∃ v : VV, as = [v] ∧ TyD h v ∧ Q (.val (.bl (isI v))) h
theorem k_iswhole (x0 : VV) (h : VH) (QV : R → VH → Prop) (hs : sIsW [x0] h QV) : bd_is_whole { nx := fun _ h' => fin h.length QV (.val .non) h', rt := fin h.length QV } [some x0] h := by
  obtain ⟨v, e, ⟨s, hty⟩, k⟩ := hs
  cases e
  unfold bd_is_whole
  walk_at "s"
  rw [ty_int hty]
  have e2 := ty_bool hty
  cases h1 : isI x0 with
  | true =>
    have h2 : isBo x0 = false := by cases x0 <;> simp [isI, isBo] at h1 ⊢
    rw [Bool.true_or]
    walk_at "s"
    rw [e2, h2]
    rw [h1] at k
    exact finK k
  | false =>
    rw [h1] at k
    rw [Bool.false_or]
    cases h2 : isBo x0 with
    | true =>
      walk_at "s"
      rw [e2, h2]
      exact finK k
    | false =>
      walk_at "s"
      exact finK k

def sAmong : GC := fun as h Q => ∃ (n : Int) (v : VV), as = [.int n, v] ∧ TyD h v ∧ Q (.val (.bl (amB n v))) h
theorem k_among (x0 x1 : VV) (h : VH) (QV : R → VH → Prop) (hs : sAmong [x0, x1] h QV) : bd_is_among sIsW { nx := fun _ h' => fin h.length QV (.val .non) h', rt := fin h.length QV } [some x0, some x1] h := by
  obtain ⟨n, v, e, ht, k⟩ := hs
  cases e
  unfold bd_is_among
  walk_at "s"
  refine ⟨x1, rfl, ht, ?_⟩
  cases h1 : isI x1 with
  | false =>
    walk_at "s"
    have : amB n x1 = false := by cases x1 <;> simp [isI, amB] at h1 ⊢
    rw [this] at k
    exact finK k
  | true =>
    obtain ⟨i, rfl⟩ : ∃ i, x1 = .int i := by cases x1 <;> simp [isI] at h1 ⊢
    walk_at "s"
    rw [amB] at k
    refine t_ite (fun hc => ?_) (fun hc => ?_)
    · walk_at "s"
      simp only [hc, decide_true, Bool.true_and] at k
      exact finK k
    · walk_at "s"
      simp only [hc, decide_false, Bool.false_and] at k
      exact finK k

def sSize : GC := fun as h Q => ∃ n : Int, as = [.int n] ∧ Q (.val (.bl (decide (2 ≤ n) && decide (n ≤ 6)))) h
theorem k_size (x0 : VV) (h : VH) (QV : R → VH → Prop) (hs : sSize [x0] h QV) : bd_is_size { nx := fun _ h' => fin h.length QV (.val .non) h', rt := fin h.length QV } [some x0] h := by
  obtain ⟨n, e, k⟩ := hs
  cases e
  unfold bd_is_size
  walk_at "s"
  refine t_ite (fun hc => ?_) (fun hc => ?_)
  · walk_at "s"
    simp only [hc, decide_true, Bool.true_and] at k
    exact finK k
  · walk_at "s"
    simp only [hc, decide_false, Bool.false_and] at k
    exact finK k

def sCheck : GC := fun as h Q => ∃ (n i : Int) (s : VV), as = [.int n, s, .int i] ∧ 0 ≤ i ∧ i < n ∧ Q (.val .non) h
theorem k_check (x0 x1 x2 : VV) (h : VH) (QV : R → VH → Prop) (hs : sCheck [x0, x1, x2] h QV) : bd_check_line sAmong { nx := fun _ h' => fin h.length QV (.val .non) h', rt := fin h.length QV } [some x0, some x1, some x2] h := by
  obtain ⟨n, i, s, e, h0, h1, k⟩ := hs
  cases e
  unfold bd_check_line
  walk_at "s"
  refine ⟨n, .int i, rfl, ⟨_, rfl⟩, ?_⟩
  rw [show amB n (.int i) = true by simp [amB, h0, h1]]
  walk_at "s"
  exact finK k
def sChecks : GC := fun as h Q => ∃ (n i j : Int), as = [.int n, .int i, .int j] ∧ 0 ≤ i ∧ i < n ∧ 0 ≤ j ∧ j < n ∧ Q (.val .non) h
theorem k_checks (x0 x1 x2 : VV) (h : VH) (QV : R → VH → Prop) (hs : sChecks [x0, x1, x2] h QV) : bd_check_lines sCheck { nx := fun _ h' => fin h.length QV (.val .non) h', rt := fin h.length QV } [some x0, some x1, some x2] h := by
  obtain ⟨n, i, j, e, h0, h1, j0, j1, k⟩ := hs
  cases e
  unfold bd_check_lines
  walk_at "s"
  refine ⟨n, i, .int 0, rfl, h0, h1, ?_⟩
  walk_at "s"
  refine ⟨n, j, .int 1, rfl, j0, j1, ?_⟩
  walk_at "s"
  exact finK k

def sDraw : GC := fun as h Q => ∃ (ns : List Int) (s : Ur) (r : VH) (n b : Int), as = [.ref 1, .int n] ∧ h = TH ns s r ∧ 0 < n ∧ n < 2 ^ 300 ∧ s.Ok b ∧ b ≤ 1000000000 ∧
  ∀ (v : Int) (s' : Ur), 0 ≤ v → v < n → s'.Ok (b + 1) → Q (.val (.int v)) (TH ns s' r)
theorem k_pull (x0 x1 : VV) (h : VH) (QV : R → VH → Prop) (hs : sDraw [x0, x1] h QV) : bd_u_law_pull { nx := fun _ h' => fin h.length QV (.val .non) h', rt := fin h.length QV } [some x0, some x1, none, none, none, none] h := by
  obtain ⟨ns, s, r, n, b, e, rfl, hn, hn2, ok, hb, k⟩ := hs
  cases e
  unfold TH at k ⊢
  have h0 := ok.lo
  have h1 := ok.hi
  unfold bd_u_law_pull
  refine t_seqM (fun ρ' h' => ∃ s' : Ur, s'.Ok (b + 1) ∧ h' = TH0 ns s' r ∧ ∃ x2 x3 x4 x5, ρ' = [some (.ref 1), some (.int n), x2, x3, x4, x5]) ?_ ?_
  · walk_at "s"
    refine t_ite (fun hc => ?_) (fun hc => ?_)
    · walk_at "s"
      refine t_seqM (fun ρ' h' => (∃ c, ρ' = [some (.ref 1), some (.int n), some (.int s.at_), some (.int c), none, none]) ∧ h' = TH0 ns { s with at_ := s.at_ + 1 } r) ?_ ?_
      · walk_at "s"
        refine t_ne (dR_ref (xs := ns.map VV.int) rfl (optAll_ints ns)) (dR_new (xs := []) rfl) ?_
        rw [eqv_nil]
        walk_at "s"
        refine t_iteb (fun hc => ?_) (fun hc => ?_)
        · have hl : 0 < ns.length := by cases ns with
            | nil => cases hc
            | cons => simp
          obtain ⟨c, _, _, hcc⟩ := atI_map (l := ns) (f := VV.int) (i := s.at_ % (ns.length : Int)) (Int.emod_nonneg _ (by omega)) (Int.emod_lt_of_pos _ (by omega))
          walk_at "s"
          rw [List.length_map]
          walk_at "s"
          exact ⟨⟨c, rfl⟩, by trivial⟩
        · walk_at "s"
          exact ⟨⟨0, rfl⟩, by trivial⟩
      · rintro ρ' h' ⟨⟨c, rfl⟩, rfl⟩
        refine t_seqM (fun ρ' h' => ρ' = [some (.ref 1), some (.int n), some (.int s.at_), some (.int c), none, none] ∧ h' = TH0 ns { s with at_ := s.at_ + 1 } r) ?_ ?_
        · walk_at "s"
          have fin1 : ∀ z : Int, fin (TH0 ns s r).length QV (.val (.int (z % n))) (TH0 ns { s with at_ := s.at_ + 1 } r) := fun z =>
            ⟨_, _, .keep, k _ _ (Int.emod_nonneg _ (by omega)) (Int.emod_lt_of_pos _ hn) ⟨by show 0 ≤ s.at_ + 1; omega, by show s.at_ + 1 ≤ b + 1; omega⟩⟩
          refine t_ite (fun hc => ?_) (fun hc => ?_)
          · walk_at "s"
            exact fin1 _
          · walk_at "s"
            refine t_ite (fun hc => ?_) (fun hc => ?_)
            · walk_at "s"
              exact fin1 _
            · walk_at "s"
              exact ⟨rfl, rfl⟩
        · rintro ρ' h' ⟨rfl, rfl⟩
          walk_at "s"
          exact ⟨⟨s.at_ + 1, 25, c - 1000000000000000000⟩, ⟨by show 0 ≤ s.at_ + 1; omega, by show s.at_ + 1 ≤ b + 1; omega⟩, rfl, _, _, _, _, rfl⟩
    · walk_at "s"
      exact ⟨s, ok.mono (by omega), rfl, _, _, _, _, rfl⟩
  · rintro ρ' h' ⟨s', ok', rfl, x2, x3, x4, x5, rfl⟩
    walk_at "s"
    exact ⟨_, _, .keep, k (s'.left % n) ⟨s'.at_, s'.rest - 1, s'.left / n⟩ (Int.emod_nonneg _ (by omega)) (Int.emod_lt_of_pos _ hn) ⟨ok'.lo, ok'.hi⟩⟩

def sWaveX : GC := fun as h Q => ∃ (n : Nat) (m b : Int) (rows : List (List Int)), as = [tv rows, .int b] ∧ Tab n m rows ∧ ∀ j, Q (.val (.tup ((waveF n rows b).map ov))) (h ++ j)
theorem k_waveX (x0 x1 : VV) (h : VH) (QV : R → VH → Prop) (hs : sWaveX [x0, x1] h QV) : bd_wave { nx := fun _ h' => fin h.length QV (.val .non) h', rt := fin h.length QV } [some x0, some x1, none, none, none, none, none] h := by
  obtain ⟨n, m, b, rows, e, T, k⟩ := hs
  cases e
  have n2 := T.lo
  have n6 := T.hi
  unfold bd_wave
  walk_at "s"
  simp only [List.length_map, T.len]
  walk_at "s"
  refine t_mulL (.inl rfl) ⟨by omega, by omega, ?_⟩ ?_
  · show 1 * _ ≤ _
    have : sizeLine = 16777216 := rfl
    omega
  rw [show ((n : Int)).toNat = n from rfl, rep_one, show List.replicate n VV.non = (wv n rows b 0).map ov by rw [wv_zero]; simp [ov]]
  walk_at "s"
  refine for_rng (fun d ρ h' => ∃ (x4 x5 x6 : Option VV), ρ = [some (tv rows), some (.int b), some (.int n), some (.ref h.length), x4, x5, x6] ∧ h' = h ++ [.lst ((wv n rows b (d * n)).map ov)])
    n (fun _ => trivial) ⟨_, _, _, rfl, by rw [Nat.zero_mul]⟩ (fun d ρ h' hd hI => ?_) (fun ρ h' hI => ?_)
  · obtain ⟨x4, x5, x6, rfl, rfl⟩ := hI
    refine t_gtN ?_
    walk_at "s"
    refine for_rng (fun r ρ h' => ∃ (x5 x6 : Option VV), ρ = [some (tv rows), some (.int b), some (.int n), some (.ref h.length), some (.int d), x5, x6] ∧ h' = h ++ [.lst ((wv n rows b (d * n + r)).map ov)])
      n (fun _ => trivial) ⟨_, _, rfl, rfl⟩ (fun r ρ h' hr hI => ?_) (fun ρ h' hI => ?_)
    · obtain ⟨x5, x6, rfl, rfl⟩ := hI
      simp only [← Nat.add_assoc, wv_at (k := d * n + r) hr rfl]
      refine t_gtN ?_
      have j0 := Int.emod_nonneg ((r : Int) + b + d) (b := (n : Int)) (by omega)
      have j1 := Int.emod_lt_of_pos ((r : Int) + b + d) (b := (n : Int)) (by omega)
      have wl := wv_len (n := n) (rows := rows) (b := b) (d * n + r)
      generalize wv n rows b (d * n + r) = os at wl ⊢
      walk_at "s"
      generalize ((r : Int) + b + d) % n = j at j0 j1 ⊢
      have g1 := tab_ix T hr
      have g2 := row_ix T hr j0 j1
      have g3 := ov_ix (os := os) (i := r) (by omega)
      have g4 := seqB (B := h) (xs := os.map ov)
      walk_at "s"
      have out : ∀ {P : Prop} [Decidable P], ¬ P → ∃ x5' x6' : Option VL.VV, [some (tv rows), some (VV.int b), some (VV.int n), some (VV.ref h.length), some (VV.int d), some (VV.int r), some (VV.int j)] = [some (tv rows), some (VV.int b), some (VV.int n), some (VV.ref h.length), some (VV.int d), x5', x6'] ∧ h ++ [VO.lst (os.map ov)] = h ++ [VO.lst ((if P then os.set r (some j) else os).map ov)] := fun hP => ⟨_, _, rfl, by rw [if_neg hP]⟩
      refine t_iteN (fun hc1 => ?_) (fun hc1 => ?_)
      · walk_at "s"
        exact ⟨_, _, .inl ⟨rfl, rfl⟩, out fun z => z.1 hc1⟩
      · walk_at "s"
        rw [isNon_ov]
        refine t_ite (fun hc2 => ?_) (fun hc2 => ?_)
        · walk_at "s"
          refine t_notin (inB_ov snoc_get) ?_
          walk_at "s"
          refine t_iteN (fun hc3 => ?_) (fun hc3 => ?_)
          · walk_at "s"
            exact ⟨_, _, .inl ⟨rfl, rfl⟩, out fun z => z.2.2 hc3⟩
          · have g6 := ixN_in (l := (os.map ov).length) (i := (r : Int)) (by omega) (by rw [List.length_map]; omega)
            walk_at "s"
            rw [snoc_set, if_pos ⟨hc1, hc2, hc3⟩, show (os.map ov).set ((r : Int)).toNat (VV.int j) = (os.set r (some j)).map ov by rw [List.map_set]; rfl]
            exact ⟨_, _, .inl ⟨rfl, rfl⟩, _, _, rfl, rfl⟩
        · walk_at "s"
          exact ⟨_, _, .inl ⟨rfl, rfl⟩, out fun z => hc2 z.2.1⟩
    · obtain ⟨x5, x6, rfl, rfl⟩ := hI
      exact ⟨_, _, .inl ⟨rfl, rfl⟩, _, _, _, rfl, by rw [Nat.succ_mul]⟩
  · obtain ⟨x4, x5, x6, rfl, rfl⟩ := hI
    walk_at "s"
    exact finK (k _)

def sCells : GC := fun as h Q => ∃ (v : VV) (os : List (Option Int)), as = [v] ∧ tupV v = some (os.map ov) ∧ os.length ≤ 1000 ∧ Q (.new (.lst ((cel os).map cv))) h
theorem k_cells (x0 : VV) (h : VH) (QV : R → VH → Prop) (hs : sCells [x0] h QV) : bd_cells_of { nx := fun _ h' => fin h.length QV (.val .non) h', rt := fin h.length QV } [some x0, none, none] h := by
  obtain ⟨v, os, e, ev, hl, k⟩ := hs
  cases e
  unfold bd_cells_of
  have sq : seqOf h (.val x0) = some (os.map ov) := tupV_seq ev
  have so := tupV_st ev
  walk_at "s"
  rw [so, enum_map os ov none]
  refine lc_of (fun i : Nat => VV.tup [.int i, ov (os.getD i none)]) (List.range os.length) (fun i => ((os.getD i none).map fun j => (i, j)).map cv) rfl (by simp; omega) trivial (fun i hi => ?_) ?_
  · cases e : os.getD i none with
    | none =>
      walk_at "s"
      exact ⟨by simp, by trivial⟩
    | some j =>
      walk_at "s"
      refine t_sz (by simp) ?_
      walk_at "s"
      exact ⟨rfl, by trivial⟩
  · rw [show (List.range os.length).filterMap (fun i => ((os.getD i none).map fun j => (i, j)).map cv) = (cel os).map cv by unfold cel; rw [List.map_filterMap]]
    exact finK k

def cell2 (n c : Nat) : VV := .tup [.int (c / n : Nat), .int (c % n : Nat)]
def sAllC : GC := fun as h Q => ∃ n : Nat, as = [.int n] ∧ 0 < n ∧ n ≤ 100 ∧ Q (.val (.ref h.length)) (h ++ [.lst ((List.range (n * n)).map (cell2 n))])
theorem k_allc (x0 : VV) (h : VH) (QV : R → VH → Prop) (hs : sAllC [x0] h QV) : bd_all_cells { nx := fun _ h' => fin h.length QV (.val .non) h', rt := fin h.length QV } [some x0, none, none] h := by
  obtain ⟨n, e, n0, n1, k⟩ := hs
  cases e
  unfold bd_all_cells
  walk_at "s"
  refine t_lc2 ?_
  walk_at "s"
  have e0 : (List.range n).flatMap (fun i : Nat => (List.range n).map fun j : Nat => VV.tup [.int (i : Int), .int (j : Int)]) = (List.range (n * n)).map (cell2 n) := flat_cells n0 (fun i j => VV.tup [.int (i : Int), .int (j : Int)]) n
  have nn : n * n ≤ 10000 := Nat.mul_le_mul n1 n1
  rw [rng_map (k := n) (by omega)]
  refine lcO_of (fun i : Nat => VV.int i) (fun i => (List.range n).map fun j : Nat => VV.tup [.int (i : Int), .int (j : Int)]) mono_gtN (List.range n) [] (fun _ => trivial) (fun i hi acc hl => ?_) (by rw [List.nil_append, e0]; simp; omega) ?_
  · walk_at "s"
    rw [rng_map (k := n) (by omega), ← List.filterMap_eq_map]
    refine lcI_of (fun j : Nat => VV.int j) (fun j => some (VV.tup [.int (i : Int), .int (j : Int)])) mono_gtN (List.range n) acc (fun _ => trivial) (by simp; omega) (fun j hj acc => ?_) ?_
    · walk_at "s"
      exact ⟨by trivial, by trivial⟩
    · rfl
  · rw [List.nil_append, e0]
    exact finK (finK k)
abbrev K2 (i j : Int) : List Key := [Sum.inl i, Sum.inl j]
def pcs (l : List (Int × Int)) : List VV := l.map VL.pv
structure Kp (C : Addr) (h : VH) (p n : Nat) (came beats : Int) (st : Nat → List (Int × Int)) : Prop where
  ins : h[p]? = some (.ins C FS_Keeper [.int n, .int came, .int beats, .ref (p + 2 + n * n)])
  dct : ∃ ks vs, h[p + 2 + n * n]? = some (.dtu ks vs) ∧ ∀ i j : Nat, i < n → j < n → vG ks vs (K2 i j) = some (.ref (p + 2 + (i * n + j)))
  cel : ∀ c, c < n * n → h[p + 2 + c]? = some (.lst (pcs (st c)))
theorem Kp.fr {C : Addr} {h h' : VH} {p n : Nat} {came beats : Int} {st : Nat → List (Int × Int)} {lo hi : Nat} (K : Kp C h p n came beats st) (f : Fr h h' lo hi) (d : p + 3 + n * n ≤ lo ∨ hi ≤ p) : Kp C h' p n came beats st := by
  obtain ⟨ks, vs, e1, e2⟩ := K.dct
  exact ⟨f.get K.ins (by omega), ⟨ks, vs, f.get e1 (by omega), e2⟩, fun c hc => f.get (K.cel c hc) (by omega)⟩
theorem Kp.app {C : Addr} {h j : VH} {p n : Nat} {came beats : Int} {st : Nat → List (Int × Int)} (K : Kp C h p n came beats st) : Kp C (h ++ j) p n came beats st := K.fr (lo := 0) (hi := 0) Fr.app (by omega)
theorem vG_inj {κ α : Type} [DecidableEq κ] {key : α → κ} {val : α → VV} : ∀ {L : List α} {x : α}, x ∈ L → (∀ y ∈ L, key y = key x → y = x) → vG (L.map key) (L.map val) (key x) = some (val x)
  | [], _, h, _ => by cases h
  | y :: L, x, h, inj => by
    rw [List.map_cons, List.map_cons, vG]
    by_cases c : key y = key x
    · rw [if_pos c, inj y (by simp) c]
    · rw [if_neg c]
      rcases List.mem_cons.mp h with rfl | h
      · exact absurd rfl c
      · exact vG_inj h fun z hz => inj z (by simp [hz])
def sKInit (C : Addr) : GC := fun as h Q => ∃ (B : VH) (n : Nat), as = [.ref B.length, .int n] ∧ h = B ++ [.ins C FS_Keeper []] ∧ 0 < n ∧ n ≤ 100 ∧
  ∀ h', Kp C h' B.length n 0 0 (fun _ => []) → Fr B h' B.length (B.length + 3 + n * n) → h'.length = B.length + 3 + n * n → Q (.val .non) h'
theorem key_inj {n c d : Nat} (e : K2 ((c / n : Nat) : Int) ((c % n : Nat) : Int) = K2 ((d / n : Nat) : Int) ((d % n : Nat) : Int)) : c = d := by
  simp only [K2, List.cons.injEq, Sum.inl.injEq, Int.natCast_inj, and_true] at e
  have h1 := Nat.div_add_mod c n
  have h2 := Nat.div_add_mod d n
  rw [e.1, e.2] at h1
  omega
theorem k_kinit {C : Addr} (x0 x1 : VV) (h : VH) (QV : R → VH → Prop) (hs : sKInit C [x0, x1] h QV) : bd_Keeper___init__ C sAllC { nx := fun _ h' => fin h.length QV (.val .non) h', rt := fin h.length QV } [some x0, some x1, none] h := by
  obtain ⟨B, n, e, rfl, n0, n1, k⟩ := hs
  cases e
  have nn : n * n ≤ 10000 := Nat.mul_le_mul n1 n1
  unfold bd_Keeper___init__
  walk_at "s"
  refine t_kfs (vs := []) snoc_get (by decide) (by decide) ?_
  rw [snoc_set, show setAt [] 0 (VV.int (n : Int)) = [VV.int (n : Int)] from rfl]
  walk_at "s"
  refine t_kfs (vs := [.int n]) snoc_get (by simp) (by simp) ?_
  rw [snoc_set, show setAt [VV.int (n : Int)] 1 (VV.int 0) = [VV.int (n : Int), .int 0] from rfl]
  walk_at "s"
  refine t_kfs (vs := [.int n, .int 0]) snoc_get (by simp) (by simp) ?_
  rw [snoc_set, show setAt [VV.int (n : Int), .int 0] 2 (VV.int 0) = [VV.int (n : Int), .int 0, .int 0] from rfl]
  walk_at "s"
  refine t_dc ?_
  walk_at "s"
  refine ⟨n, rfl, n0, n1, ?_⟩
  have gC : ∀ j : VH, (B ++ [VO.ins C FS_Keeper [.int n, .int 0, .int 0]] ++ [.lst ((List.range (n * n)).map (cell2 n))] ++ j)[(B ++ [VO.ins C FS_Keeper [.int n, .int 0, .int 0]]).length]? = some (.lst ((List.range (n * n)).map (cell2 n))) := fun j => by
    rw [List.append_assoc, List.getElem?_append_right (Nat.le_refl _)]; simp
  have gC0 := gC []
  rw [List.append_nil] at gC0
  refine t_ks (seq_lst gC0) ?_
  refine dc_go (fun i o h' => i ≤ n * n ∧ h' = B ++ [VO.ins C FS_Keeper [.int n, .int 0, .int 0]] ++ [.lst ((List.range (n * n)).map (cell2 n))] ++ List.replicate i (.lst []) ∧ o = .dtu ((List.range i).map fun c => K2 ((c / n : Nat) : Int) ((c % n : Nat) : Int)) ((List.range i).map fun c => VV.ref (B.length + 2 + c)))
    _ 0 _ _ (fun i o h' hI => by obtain ⟨_, rfl, _⟩ := hI; exact gC _) ⟨by omega, by simp, rfl⟩ (fun i x o h' hx hI => ?_) (fun o h' hI => ?_) mono_gtN
  · obtain ⟨hi, rfl, rfl⟩ := hI
    rw [Nat.zero_add] at hi ⊢
    rw [List.getElem?_map] at hx
    obtain ⟨i', hi', rfl⟩ := Option.map_eq_some_iff.mp hx
    have hl := (List.getElem?_eq_some_iff.mp hi').1
    rw [List.length_range] at hl
    have : i' = i := by rw [List.getElem?_range hl] at hi'; exact (Option.some.inj hi').symm
    subst this
    refine t_gtN ?_
    walk_at "s"
    have hn : K2 ((i' / n : Nat) : Int) ((i' % n : Nat) : Int) ∉ (List.range i').map fun c => K2 ((c / n : Nat) : Int) ((c % n : Nat) : Int) := fun hm => by
      obtain ⟨c, hc, e⟩ := List.mem_map.mp hm
      have := key_inj e
      have := List.mem_range.mp hc
      omega
    refine ⟨.dtu ((List.range (i' + 1)).map fun c => K2 ((c / n : Nat) : Int) ((c % n : Nat) : Int)) ((List.range (i' + 1)).map fun c => VV.ref (B.length + 2 + c)), ?_, by simp [sizeO]; omega, by omega, ?_, rfl⟩
    · show some (VO.dtu (pKs _ _) (pVs _ _ _ _)) = _
      unfold pKs pVs
      rw [if_neg hn, if_neg hn, List.range_succ, List.map_append, List.map_append]
      simp
      omega
    · rw [List.replicate_succ', ← List.append_assoc]
  · obtain ⟨hi, rfl, rfl⟩ := hI
    rw [Nat.zero_add, List.length_map, List.length_range]
    walk_at "s"
    have gI : (B ++ [VO.ins C FS_Keeper [.int n, .int 0, .int 0]] ++ [.lst ((List.range (n * n)).map (cell2 n))] ++ List.replicate (n * n) (VO.lst []) ++ [VO.dtu ((List.range (n * n)).map fun c => K2 ((c / n : Nat) : Int) ((c % n : Nat) : Int)) ((List.range (n * n)).map fun c => VV.ref (B.length + 2 + c))])[B.length]? = some (VO.ins C FS_Keeper [.int n, .int 0, .int 0]) := by
      rw [List.append_assoc, List.append_assoc, List.append_assoc, List.getElem?_append_right (Nat.le_refl _)]; simp
    refine t_kfs gI (by simp) (by simp) ?_
    refine finK (k _ ⟨?_, ⟨(List.range (n * n)).map fun c => K2 ((c / n : Nat) : Int) ((c % n : Nat) : Int), (List.range (n * n)).map fun c => VV.ref (B.length + 2 + c), ?_, fun i j hi hj => ?_⟩, fun c hc => ?_⟩ ?_ ?_)
    · rw [List.getElem?_set_self (List.getElem?_eq_some_iff.mp gI).1]
      show some (VO.ins C FS_Keeper (setAt [VV.int (n : Int), .int 0, .int 0] 3 _)) = _
      simp [setAt]; omega
    · have : B.length + 2 + n * n = (B ++ [VO.ins C FS_Keeper [.int n, .int 0, .int 0]] ++ [VO.lst ((List.range (n * n)).map (cell2 n))] ++ List.replicate (n * n) (VO.lst [])).length := by simp; omega
      rw [List.getElem?_set_ne (by omega), this, List.getElem?_append_right (Nat.le_refl _), Nat.sub_self]; rfl
    · have := vG_inj (key := fun c : Nat => K2 ((c / n : Nat) : Int) ((c % n : Nat) : Int)) (val := fun c => VV.ref (B.length + 2 + c)) (L := List.range (n * n)) (x := i * n + j) (List.mem_range.mpr (flat_lt hi hj)) (fun y _ e => key_inj e)
      rw [flat_div hj, flat_mod hj] at this
      exact this
    · rw [List.getElem?_set_ne (by omega), List.append_assoc, List.getElem?_append_right (by first | (simp; done) | (simp; omega)), List.getElem?_append_left (by first | (simp; done) | (simp; omega)), List.getElem?_replicate]
      rw [if_pos (by first | (simp; done) | (simp; omega))]; rfl
    · refine ⟨by simp, fun a ha _ => ?_⟩
      rw [List.getElem?_set_ne (by omega), List.append_assoc, List.append_assoc, List.append_assoc, List.getElem?_append_left ha]
    · simp; omega

def upS (st : Nat → List (Int × Int)) (c : Nat) (l : List (Int × Int)) : Nat → List (Int × Int) := fun q => if q = c then l else st q
/-- a cell is set -/
theorem Kp.setc {C : Addr} {h : VH} {p n : Nat} {came beats : Int} {st : Nat → List (Int × Int)} (K : Kp C h p n came beats st) {c : Nat} (hc : c < n * n) (l : List (Int × Int)) : Kp C (h.set (p + 2 + c) (.lst (pcs l))) p n came beats (upS st c l) := by
  obtain ⟨ks, vs, e1, e2⟩ := K.dct
  refine ⟨by rw [List.getElem?_set_ne (by omega)]; exact K.ins, ⟨ks, vs, by rw [List.getElem?_set_ne (by omega)]; exact e1, e2⟩, fun q hq => ?_⟩
  unfold upS
  by_cases z : q = c
  · subst z
    rw [if_pos rfl, List.getElem?_set_self (List.getElem?_eq_some_iff.mp (K.cel q hq)).1]
  · rw [if_neg z, List.getElem?_set_ne (by omega)]; exact K.cel q hq
theorem Kp.seti {C : Addr} {h : VH} {p n : Nat} {came beats came' beats' : Int} {st : Nat → List (Int × Int)} (K : Kp C h p n came beats st) : Kp C (h.set p (.ins C FS_Keeper [.int n, .int came', .int beats', .ref (p + 2 + n * n)])) p n came' beats' st := by
  obtain ⟨ks, vs, e1, e2⟩ := K.dct
  exact ⟨List.getElem?_set_self (List.getElem?_eq_some_iff.mp K.ins).1, ⟨ks, vs, by rw [List.getElem?_set_ne (by omega)]; exact e1, e2⟩, fun q hq => by rw [List.getElem?_set_ne (by omega)]; exact K.cel q hq⟩
theorem Kp.key {C : Addr} {h : VH} {p n : Nat} {came beats : Int} {st : Nat → List (Int × Int)} (K : Kp C h p n came beats st) {i j : Nat} (hi : i < n) (hj : j < n) : ∃ o, h[p + 2 + n * n]? = some o ∧ dGetO o (.tup [.int (i : Int), .int (j : Int)]) = some (some (.ref (p + 2 + (i * n + j)))) := by
  obtain ⟨ks, vs, e1, e2⟩ := K.dct
  exact ⟨_, e1, by show some (vG ks vs (K2 i j)) = _; rw [e2 i j hi hj]⟩
def sCome (C : Addr) : GC := fun as h Q => ∃ (p n i j : Nat) (came beats : Int) (st : Nat → List (Int × Int)), as = [.ref p, .int (i : Int), .int (j : Int)] ∧ Kp C h p n came beats st ∧ i < n ∧ j < n ∧ (st (i * n + j)).length ≤ 100000 ∧
  ∀ h', Kp C h' p n (came + 1) beats (upS st (i * n + j) (st (i * n + j) ++ [(came, beats)])) → Fr h h' p (p + 3 + n * n) → Q (.val (.int came)) h'
theorem k_come {C : Addr} (x0 x1 x2 : VV) (h : VH) (QV : R → VH → Prop) (hs : sCome C [x0, x1, x2] h QV) : bd_Keeper_come C sChecks { nx := fun _ h' => fin h.length QV (.val .non) h', rt := fin h.length QV } [some x0, some x1, some x2, none] h := by
  obtain ⟨p, n, i, j, came, beats, st, e, K, hi, hj, hl, q⟩ := hs
  cases e
  have ki := K.ins
  unfold bd_Keeper_come
  walk_at "s"
  refine ⟨n, i, j, rfl, by omega, by omega, by omega, by omega, ?_⟩
  walk_at "s"
  refine t_kfa ki rfl (by simp) rfl ?_
  show gSeq _ _ _ _ (h.set p (.ins C FS_Keeper [.int n, .int (came + 1), .int beats, .ref (p + 2 + n * n)]))
  have K1 : Kp C (h.set p (.ins C FS_Keeper [.int n, .int (came + 1), .int beats, .ref (p + 2 + n * n)])) p n (came + 1) beats st := K.seti
  have F1 : Fr h (h.set p (.ins C FS_Keeper [.int n, .int (came + 1), .int beats, .ref (p + 2 + n * n)])) p (p + 3 + n * n) := Fr.set (by omega) (by omega)
  generalize h.set p (.ins C FS_Keeper [.int n, .int (came + 1), .int beats, .ref (p + 2 + n * n)]) = h1 at K1 F1 ⊢
  have k1 := K1.ins
  obtain ⟨o, o1, o2⟩ := K1.key hi hj
  have cl := flat_lt hi hj
  have kc := K1.cel _ cl
  walk_at "s"
  refine t_kdg o1 o2 ?_
  refine t_kapp kc ?_
  walk_at "s"
  refine t_kapp2 kc (Nat.lt_of_le_of_lt (by unfold pcs; rw [List.length_map]; exact hl) (by decide : 100000 < sizeLine)) ?_
  walk_at "s"
  have K2 := K1.setc cl (st (i * n + j) ++ [(came, beats)])
  have e : pcs (st (i * n + j)) ++ [.tup [.int came, .int beats]] = pcs (st (i * n + j) ++ [(came, beats)]) := by unfold pcs; rw [List.map_append]; rfl
  rw [e]
  exact finK (q _ K2 (F1.tr (Fr.set (by omega) (by omega))))
def sWait (C : Addr) : GC := fun as h Q => ∃ (p n i j : Nat) (came beats : Int) (st : Nat → List (Int × Int)), as = [.ref p, .int (i : Int), .int (j : Int)] ∧ Kp C h p n came beats st ∧ i < n ∧ j < n ∧ (st (i * n + j)).length ≤ 20000 ∧
  Q (.new (.lst (((st (i * n + j)).map Prod.fst).map .int))) h
theorem k_wait {C : Addr} (x0 x1 x2 : VV) (h : VH) (QV : R → VH → Prop) (hs : sWait C [x0, x1, x2] h QV) : bd_Keeper_waiting C sChecks { nx := fun _ h' => fin h.length QV (.val .non) h', rt := fin h.length QV } [some x0, some x1, some x2, none] h := by
  obtain ⟨p, n, i, j, came, beats, st, e, K, hi, hj, hl, q⟩ := hs
  cases e
  have ki := K.ins
  obtain ⟨o, o1, o2⟩ := K.key hi hj
  have kc := K.cel _ (flat_lt hi hj)
  unfold bd_Keeper_waiting
  walk_at "s"
  refine ⟨n, i, j, rfl, by omega, by omega, by omega, by omega, ?_⟩
  walk_at "s"
  refine t_kdg o1 o2 ?_
  refine t_ks (seq_lst kc) ?_
  refine lc_mp VL.pv (st (i * n + j)) (fun p => .int p.1) rfl (by omega) kc (fun p hp => ?_) ?_
  · unfold VL.pv
    walk_at "s"
    exact ⟨by trivial, by trivial⟩
  rw [show (st (i * n + j)).map (fun p => VV.int p.1) = ((st (i * n + j)).map Prod.fst).map .int by rw [List.map_map]; rfl]
  exact finK q
def cntR (n : Nat) (st : Nat → List (Int × Int)) (i : Nat) : List Int := (List.range n).map fun j : Nat => ((st (i * n + j)).length : Int)
def cnts (n : Nat) (st : Nat → List (Int × Int)) : List (List Int) := (List.range n).map fun i => cntR n st i
def sCounts (C : Addr) : GC := fun as h Q => ∃ (p n i : Nat) (came beats : Int) (st : Nat → List (Int × Int)), as = [.ref p, .int (i : Int)] ∧ Kp C h p n came beats st ∧ i < n ∧ n ≤ 100 ∧ Q (.val (.tup ((cntR n st i).map .int))) h
theorem k_counts {C : Addr} (x0 x1 : VV) (h : VH) (QV : R → VH → Prop) (hs : sCounts C [x0, x1] h QV) : bd_Keeper__counts_of C { nx := fun _ h' => fin h.length QV (.val .non) h', rt := fin h.length QV } [some x0, some x1, none] h := by
  obtain ⟨p, n, i, came, beats, st, e, K, hi, n1, q⟩ := hs
  cases e
  have ki := K.ins
  unfold bd_Keeper__counts_of
  walk_at "s"
  refine lc_rngm (fun j : Nat => .int ((st (i * n + j)).length : Int)) n (by omega) trivial (fun j hj => ?_) ?_
  · obtain ⟨o, o1, o2⟩ := K.key hi hj
    have kc := K.cel _ (flat_lt hi hj)
    walk_at "s"
    refine t_kdg o1 o2 ?_
    refine t_lenS (fun _ hh => by cases hh) (seq_lst kc) ?_
    unfold pcs
    rw [List.length_map]
    exact ⟨by trivial, by trivial⟩
  rw [show (List.range n).map (fun j : Nat => VV.int ((st (i * n + j)).length : Int)) = (cntR n st i).map .int by unfold cntR; rw [List.map_map]; rfl]
  walk_at "s"
  exact finK q
def sKTab (C : Addr) : GC := fun as h Q => ∃ (p n : Nat) (came beats : Int) (st : Nat → List (Int × Int)), as = [.ref p] ∧ Kp C h p n came beats st ∧ n ≤ 100 ∧ Q (.val (tv (cnts n st))) h
theorem k_ktab {C : Addr} (x0 : VV) (h : VH) (QV : R → VH → Prop) (hs : sKTab C [x0] h QV) : bd_Keeper_table C (sCounts C) { nx := fun _ h' => fin h.length QV (.val .non) h', rt := fin h.length QV } [some x0, none] h := by
  obtain ⟨p, n, came, beats, st, e, K, n1, q⟩ := hs
  cases e
  have ki := K.ins
  unfold bd_Keeper_table
  walk_at "s"
  refine lc_rngm (fun i : Nat => .tup ((cntR n st i).map .int)) n (by omega) trivial (fun i hi => ?_) ?_
  · walk_at "s"
    refine t_kmeth ki ?_
    walk_at "s"
    refine ⟨p, n, i, came, beats, st, rfl, K, hi, n1, ?_⟩
    exact ⟨by trivial, by trivial⟩
  rw [show (List.range n).map (fun i : Nat => VV.tup ((cntR n st i).map .int)) = (cnts n st).map fun x => VV.tup (x.map .int) by unfold cnts; rw [List.map_map]; rfl]
  walk_at "s"
  exact finK q
def sBeats (C : Addr) : GC := fun as h Q => ∃ (p n : Nat) (came beats : Int) (st : Nat → List (Int × Int)), as = [.ref p] ∧ Kp C h p n came beats st ∧ Q (.val (.int beats)) h
theorem k_beats {C : Addr} (x0 : VV) (h : VH) (QV : R → VH → Prop) (hs : sBeats C [x0] h QV) : bd_Keeper_beats C { nx := fun _ h' => fin h.length QV (.val .non) h', rt := fin h.length QV } [some x0] h := by
  obtain ⟨p, n, came, beats, st, e, K, q⟩ := hs
  cases e
  have ki := K.ins
  unfold bd_Keeper_beats
  walk_at "s"
  exact finK q
theorem tab_cnts {n : Nat} {st : Nat → List (Int × Int)} {T : Nat} (n2 : 2 ≤ n) (n6 : n ≤ 6) (hT : ∀ c, c < n * n → (st c).length ≤ T) : Tab n (T : Int) (cnts n st) := by
  refine ⟨n2, n6, by unfold cnts; simp, fun x hx => ?_, fun x hx z hz => ?_⟩
  · obtain ⟨i, _, rfl⟩ := List.mem_map.mp hx
    unfold cntR; simp
  · obtain ⟨i, hi, rfl⟩ := List.mem_map.mp hx
    obtain ⟨j, hj, rfl⟩ := List.mem_map.mp hz
    have := hT _ (flat_lt (List.mem_range.mp hi) (List.mem_range.mp hj))
    omega
theorem aij_cnts {n : Nat} {st : Nat → List (Int × Int)} {i j : Nat} (hi : i < n) (hj : j < n) : aij (cnts n st) i j = (st (i * n + j)).length := by
  have := aij_map (f := fun i j => ((st (i * n + j)).length : Int)) hi hj
  exact this
/-- what a beat leaves, what it tells -/
def goSt (n : Nat) (os : List (Option Int)) (st : Nat → List (Int × Int)) : Nat → List (Int × Int) := fun c => if os.getD (c / n) none = some ((c % n : Nat) : Int) then (st c).tail else st c
def goT (n : Nat) (beats : Int) (st : Nat → List (Int × Int)) (p : Nat × Int) : Int × Int := let x := (st (p.1 * n + p.2.toNat)).headD (0, 0); (x.1, beats - x.2)
def goTold (n : Nat) (os : List (Option Int)) (beats : Int) (st : Nat → List (Int × Int)) : List (Int × Int) := (cel os).map (goT n beats st)

theorem cel_pair {n : Nat} {os : List (Option Int)} (P : Pair n os) {p : Nat × Int} (h : p ∈ cel os) : p.1 < n ∧ 0 ≤ p.2 ∧ p.2 < n ∧ os.getD p.1 none = some p.2 := by
  obtain ⟨i, j⟩ := p
  have e := mem_cel.mp h
  have hi := (List.getElem?_eq_some_iff.mp e).1
  rw [P.len] at hi
  have := P.rng j (List.mem_of_getElem? e)
  exact ⟨hi, this.1, this.2, getD_some.mpr e⟩
theorem wave_pair {n : Nat} {rows : List (List Int)} {b : Int} (hn : 0 < n) : Pair n (waveF n rows b) := (wv_ok hn (n * n)).pair
theorem goSt_at {n : Nat} {os : List (Option Int)} {st : Nat → List (Int × Int)} {i j : Nat} (hj : j < n) : goSt n os st (i * n + j) = if os.getD i none = some (j : Int) then (st (i * n + j)).tail else st (i * n + j) := by
  unfold goSt
  rw [flat_div hj, flat_mod hj]
/-- after the first k cells -/
def midSt (n : Nat) (ps : List (Nat × Int)) (st : Nat → List (Int × Int)) : Nat → List (Int × Int) := fun c => if (c / n, ((c % n : Nat) : Int)) ∈ ps then (st c).tail else st c
theorem midSt_all {n : Nat} {os : List (Option Int)} {st : Nat → List (Int × Int)} : midSt n (cel os) st = goSt n os st := by
  funext c
  unfold midSt goSt
  simp only [mem_cel, ← getD_some]
theorem nodup_cel {os : List (Option Int)} : (cel os).Nodup := by
  unfold cel
  refine List.Pairwise.filterMap _ (fun a b hne c h1 d h2 e => hne ?_) List.nodup_range
  subst e
  obtain ⟨x, _, rfl⟩ := Option.map_eq_some_iff.mp h1
  obtain ⟨y, _, e⟩ := Option.map_eq_some_iff.mp h2
  exact (Prod.mk.inj e).1.symm
theorem frtop {h h' : VH} {k lo hi : Nat} {o : VO} (f : Fr h h' lo hi) (hk : h.length ≤ k) : Fr h (h'.set k o) lo hi := ⟨by simpa using f.1, fun a ha c => by rw [List.getElem?_set_ne (by omega)]; exact f.2 a ha c⟩
def sBeat (C : Addr) : GC := fun as h Q => ∃ (p n T : Nat) (came beats : Int) (st : Nat → List (Int × Int)), as = [.ref p] ∧ Kp C h p n came beats st ∧ 2 ≤ n ∧ n ≤ 6 ∧ (∀ c, c < n * n → (st c).length ≤ T) ∧
  ∀ (h' : VH) (t0 : Nat), Kp C h' p n came (beats + 1) (goSt n (waveF n (cnts n st) beats) st) → Fr h h' p (p + 3 + n * n) → h.length ≤ t0 → h'[t0]? = some (.lst (pcs (goTold n (waveF n (cnts n st) beats) beats st))) → Q (.val (.ref t0)) h'
theorem k_beat {C : Addr} (x0 : VV) (h : VH) (QV : R → VH → Prop) (hs : sBeat C [x0] h QV) : bd_Keeper_beat C sCells sWaveX (sKTab C) { nx := fun _ h' => fin h.length QV (.val .non) h', rt := fin h.length QV } [some x0, none, none, none, none] h := by
  obtain ⟨p, n, T, came, beats, st, e, K, n2, n6, hT, q⟩ := hs
  cases e
  have Tb := tab_cnts n2 n6 hT
  have P : Pair n (waveF n (cnts n st) beats) := wave_pair (by omega)
  have W : WithinP n (cnts n st) (waveF n (cnts n st) beats) := (wv_ok (show 0 < n by omega) (n * n)).wi
  unfold bd_Keeper_beat
  walk_at "s"
  have K1 : Kp C (h ++ [.lst []]) p n came beats st := K.app
  have k1 := K1.ins
  refine t_kmeth k1 ?_
  walk_at "s"
  refine ⟨p, n, came, beats, st, rfl, K1, by omega, ?_⟩
  walk_at "s"
  refine ⟨n, T, beats, cnts n st, rfl, Tb, fun j => ?_⟩
  walk_at "s"
  refine ⟨_, waveF n (cnts n st) beats, rfl, rfl, by rw [P.len]; omega, ?_⟩
  generalize waveF n (cnts n st) beats = os at P W q ⊢
  have K2 : Kp C (h ++ [.lst []] ++ j) p n came beats st := K1.app
  have e0 : h ++ [VO.lst []] ++ j = h ++ [VO.lst []] ++ j := rfl
  have cl : (cel os).length ≤ 6 := by have := cel_len os; have := P.len; omega
  walk_at "s"
  refine for_ls (fun i ρ h' => ∃ (x2 x3 x4 : Option VV), ρ = [some (.ref p), some (.ref h.length), x2, x3, x4] ∧ Kp C h' p n came beats (midSt n ((cel os).take i) st) ∧ Fr h h' p (p + 3 + n * n) ∧ h.length < h'.length ∧ h'[h.length]? = some (.lst (pcs (((cel os).take i).map (goT n beats st)))))
    (fun _ _ _ _ => trivial) ⟨_, _, _, rfl, ?_, by rw [List.append_assoc]; exact Fr.app, by simp, by rw [List.append_assoc, List.getElem?_append_right (Nat.le_refl _)]; simp [pcs]⟩ (fun i x ρ h' hx hI => ?_) (fun ρ h' hI => ?_)
  · have : midSt n ((cel os).take 0) st = st := by funext c; unfold midSt; simp
    rw [this]; exact K2
  · obtain ⟨x2, x3, x4, rfl, K', F', L', G'⟩ := hI
    rw [List.getElem?_map] at hx
    obtain ⟨⟨a, b⟩, hq, rfl⟩ := Option.map_eq_some_iff.mp hx
    have hm := List.mem_of_getElem? hq
    obtain ⟨a1, b0, b1, eo⟩ := cel_pair P hm
    have a1 : a < n := a1
    have b0 : 0 ≤ b := b0
    have b1 : b < n := b1
    have eo : os.getD a none = some b := eo
    obtain ⟨bn, rfl⟩ : ∃ bn : Nat, b = (bn : Int) := ⟨b.toNat, by omega⟩
    have b1 : bn < n := by omega
    have hw := W a bn a1 b1 eo
    rw [aij_cnts a1 b1] at hw
    have hnot : (a, (bn : Int)) ∉ (cel os).take i := fun hin => by
      obtain ⟨j, hj, ej⟩ := List.mem_take_iff_getElem.mp hin
      obtain ⟨hi, ei⟩ := List.getElem?_eq_some_iff.mp hq
      have := (List.getElem_inj nodup_cel).mp (ej.trans ei.symm)
      omega
    have em : midSt n ((cel os).take i) st (a * n + bn) = st (a * n + bn) := by
      unfold midSt
      rw [flat_div b1, flat_mod b1, if_neg hnot]
    obtain ⟨⟨u, v⟩, l, el⟩ : ∃ x l, st (a * n + bn) = x :: l := by
      cases e : st (a * n + bn) with
      | nil => rw [e] at hw; exact absurd rfl hw
      | cons x l => exact ⟨x, l, rfl⟩
    obtain ⟨o, o1, o2⟩ := K'.key a1 b1
    have cc := flat_lt a1 b1
    have kc := K'.cel _ cc
    rw [em, el] at kc
    have ki := K'.ins
    have lp := (List.getElem?_eq_some_iff.mp (K.cel _ cc)).1
    refine t_gtN ?_
    unfold cv
    walk_at "s"
    refine t_popAt ?_
    walk_at "s"
    refine t_kdg o1 o2 ?_
    refine t_kpop0 kc ?_
    have K3 := K'.setc cc l
    have q1 : p + 2 + (a * n + bn) < p + 3 + n * n := by exact Nat.lt_trans (Nat.add_lt_add_left cc _) (by omega)
    have q2 : p + 2 + (a * n + bn) ≠ h.length := Nat.ne_of_lt lp
    have F3 := F'.tr (Fr.set (h := h') (k := p + 2 + (a * n + bn)) (o := .lst (pcs l)) (by omega) q1 : Fr h' _ p (p + 3 + n * n))
    have G3 : (h'.set (p + 2 + (a * n + bn)) (.lst (pcs l)))[h.length]? = some (.lst (pcs (((cel os).take i).map (goT n beats st)))) := by
      rw [List.getElem?_set_ne q2]; exact G'
    have L3 : h.length < (h'.set (p + 2 + (a * n + bn)) (.lst (pcs l))).length := by simpa using L'
    show put (.val (VL.pv (u, v))) (h'.set (p + 2 + (a * n + bn)) (.lst (pcs l))) _
    generalize h'.set (p + 2 + (a * n + bn)) (.lst (pcs l)) = h3 at K3 F3 G3 L3 ⊢
    unfold VL.pv
    have k3 := K3.ins
    walk_at "s"
    refine t_kapp2 G3 (Nat.lt_of_le_of_lt (by unfold pcs; rw [List.length_map, List.length_map]; exact Nat.le_trans (List.length_take_le _ _) (by have := (List.getElem?_eq_some_iff.mp hq).1; omega : i ≤ 1000)) (by decide : 1000 < sizeLine)) ?_
    have rg : p + 3 + n * n ≤ h.length := by
      obtain ⟨ks, vs, w, _⟩ := K.dct
      have := (List.getElem?_eq_some_iff.mp w).1
      omega
    refine ⟨_, _, .inl ⟨rfl, rfl⟩, _, _, _, rfl, ?_, frtop F3 (Nat.le_refl _), by simpa using L3, ?_⟩
    · have K4 := K3.fr (Fr.set (h := h3) (k := h.length) (lo := h.length) (hi := h.length + 1) (o := .lst (pcs (((cel os).take i).map (goT n beats st)) ++ [.tup [.int u, .int (beats - v)]])) (Nat.le_refl _) (Nat.lt_succ_self _)) (.inl rg)
      have : upS (midSt n ((cel os).take i) st) (a * n + bn) l = midSt n ((cel os).take (i + 1)) st := by
        funext c
        unfold upS
        by_cases z : c = a * n + bn
        · subst z
          rw [if_pos rfl]
          unfold midSt
          rw [flat_div b1, flat_mod b1, if_pos (by rw [List.take_add_one, hq]; simp), el]; rfl
        · rw [if_neg z]
          unfold midSt
          have : (c / n, ((c % n : Nat) : Int)) ∈ (cel os).take (i + 1) ↔ (c / n, ((c % n : Nat) : Int)) ∈ (cel os).take i := by
            rw [List.take_add_one, hq]
            simp only [Option.toList, List.mem_append, List.mem_singleton, Prod.mk.injEq, Int.natCast_inj]
            constructor
            · rintro (w | ⟨w1, w2⟩)
              · exact w
              · exfalso
                have := Nat.div_add_mod' c n
                rw [w1, w2] at this
                exact z this.symm
            · exact .inl
          simp only [this]
      rw [this] at K4
      exact K4
    · rw [List.getElem?_set_self L3, List.take_add_one, hq]
      have eg : goT n beats st (a, (bn : Int)) = (u, beats - v) := by
        unfold goT
        simp only [Int.toNat_natCast, el, List.headD_cons]
      unfold pcs
      simp only [List.map_append, Option.toList, List.map_cons, List.map_nil, eg]
      rfl
  · obtain ⟨x2, x3, x4, rfl, K', F', L', G'⟩ := hI
    rw [List.length_map, List.take_length] at K' G'
    rw [midSt_all] at K'
    have ki := K'.ins
    walk_at "s"
    refine t_kfa ki rfl (by simp) rfl ?_
    walk_at "s"
    have K5 : Kp C (h'.set p (.ins C FS_Keeper [.int n, .int came, .int (beats + 1), .ref (p + 2 + n * n)])) p n came (beats + 1) (goSt n os st) := K'.seti
    have lp := (List.getElem?_eq_some_iff.mp K.ins).1
    refine finK (q _ h.length K5 (F'.tr (Fr.set (by omega) (by omega))) (Nat.le_refl _) ?_)
    show (h'.set p _)[h.length]? = _
    rw [List.getElem?_set_ne (by omega)]
    exact G'

/-- a heap that changed at A alone -/
structure Chg (h h' : VH) (A : Nat → Prop) : Prop where
  len : h.length ≤ h'.length
  old : ∀ a, a < h.length → ¬ A a → h'[a]? = h[a]?
theorem Chg.rfl {h : VH} {A : Nat → Prop} : Chg h h A := ⟨Nat.le_refl _, fun _ _ _ => .refl _⟩
theorem Chg.tr {h h1 h2 : VH} {A B : Nat → Prop} (c : Chg h h1 A) (d : Chg h1 h2 B) (s : ∀ a, a < h.length → B a → A a) : Chg h h2 A :=
  ⟨Nat.le_trans c.len d.len, fun a ha na => (d.old a (Nat.lt_of_lt_of_le ha c.len) fun b => na (s a ha b)).trans (c.old a ha na)⟩
theorem Chg.mono {h h1 : VH} {A B : Nat → Prop} (c : Chg h h1 A) (s : ∀ a, a < h.length → A a → B a) : Chg h h1 B := ⟨c.len, fun a ha na => c.old a ha fun b => na (s a ha b)⟩
theorem Chg.set {h : VH} {A : Nat → Prop} {k : Nat} {o : VO} (a : A k) : Chg h (h.set k o) A := ⟨by simp, fun b _ nb => by rw [List.getElem?_set_ne (fun e => nb (by rw [← e]; exact a))]⟩
theorem Chg.app {h j : VH} {A : Nat → Prop} : Chg h (h ++ j) A := ⟨by simp, fun b hb _ => List.getElem?_append_left hb⟩
theorem Chg.get {h h' : VH} {A : Nat → Prop} (c : Chg h h' A) {a : Nat} {o : VO} (e : h[a]? = some o) (na : ¬ A a) : h'[a]? = some o := (c.old a (List.getElem?_eq_some_iff.mp e).1 na).trans e

def sPairing : GC := fun as h Q => ∃ (n : Nat) (v : VV), as = [.int n, v] ∧ TyT h v ∧ (∀ xs, v = .tup xs → xs.length ≤ 1000) ∧ ∀ h', Chg h h' (fun _ => False) → Q (.val (.bl (pairB n v))) h'
theorem k_pairing (x0 x1 : VV) (h : VH) (QV : R → VH → Prop) (hs : sPairing [x0, x1] h QV) : bd_is_pairing sSize sAmong { nx := fun _ h' => fin h.length QV (.val .non) h', rt := fin h.length QV } [some x0, some x1, none, none] h := by
  obtain ⟨n, v, e, ⟨ht, hx, nf⟩, hl, k⟩ := hs
  cases e
  unfold bd_is_pairing
  refine t_seqM (fun ρ' h' => h = h' ∧ ρ' = [some (.int n), some x1, none, none] ∧ ∃ xs, x1 = .tup xs ∧ xs.length = n ∧ 2 ≤ n ∧ n ≤ 6) ?_ ?_
  · walk_at "s"
    refine ⟨n, rfl, ?_⟩
    walk_at "s"
    have no : pairB n x1 = false → fin h.length QV (.val (.bl false)) h := fun e => by rw [e] at k; exact finK (k _ Chg.rfl)
    cases hb : (decide (2 ≤ (n : Int)) && decide ((n : Int) ≤ 6)) with
    | false =>
      walk_at "s"
      refine no ?_
      unfold pairB
      split
      · have : ¬ (2 ≤ n ∧ n ≤ 6) := fun ⟨a, b⟩ => by simp at hb; omega
        by_cases h2 : 2 ≤ n
        · have h3 : ¬ n ≤ 6 := fun z => this ⟨h2, z⟩
          simp [h2, h3]
        · simp [h2]
      · rfl
    | true =>
      walk_at "s"
      obtain ⟨s, hty⟩ := ht
      refine t_isi hty ?_
      rw [ty_tup hty]
      walk_at "s"
      cases h1 : isTup x1 with
      | false =>
        walk_at "s"
        exact no (by cases x1 <;> simp [isTup] at h1 <;> rfl)
      | true =>
        obtain ⟨xs, rfl⟩ : ∃ xs, x1 = .tup xs := by cases x1 <;> simp [isTup] at h1 ⊢; exact absurd rfl (nf _)
        walk_at "s"
        refine t_iteN (fun hc1 => ?_) (fun hc1 => ?_)
        · walk_at "s"
          simp at hb
          exact ⟨rfl, rfl, xs, rfl, by omega, by omega, by omega⟩
        · walk_at "s"
          refine no ?_
          unfold pairB
          have : ¬ xs.length = n := by omega
          simp [this]
  · rintro ρ' h' ⟨rfl, rfl, xs, rfl, h1, h2, h3⟩
    have hl := hl xs rfl
    have hx := hx xs rfl
    have pb : pairB n (.tup xs) = ((xs.filter notN).all (amB n) && decide ((xs.filter notN).map intD).Nodup) := by unfold pairB; simp [h1, h2, h3]
    rw [pb] at k
    walk_at "s"
    refine lc_of id xs (fun x => if notN x = true then some x else none) (by simp) (by omega) (by trivial) (fun x hxx => ?_) ?_
    · walk_at "s"
      have e : (!isNon (R.val (id x))) = notN x := by cases x <;> rfl
      rw [e]
      cases hn : notN x with
      | true => walk_at "s"; exact ⟨by simp, by trivial⟩
      | false => walk_at "s"; exact ⟨by simp, by trivial⟩
    · rw [filt_fm]
      have fl : (xs.filter notN).length ≤ 1000 := Nat.le_trans (List.length_filter_le _ _) hl
      have fx : ∀ x ∈ xs.filter notN, TyD h x := fun x hm => hx x (List.mem_filter.mp hm).1
      generalize xs.filter notN = cs at fl fx k
      walk_at "s"
      refine t_seqM (fun ρ' h' => cs.all (amB n) = true ∧ h' = h ++ [.lst cs] ∧ ρ' = [some (.int n), some (.tup xs), some (.ref h.length), none]) ?_ ?_
      · walk_at "s"
        refine lc_mp id cs (fun x => .bl (amB n x)) (by simp) (by omega) snoc_get (fun x hxx => ?_) ?_
        · walk_at "s"
          refine ⟨n, x, rfl, tyd_app (fx x hxx), ?_⟩
          walk_at "s"
          exact ⟨by trivial, by trivial⟩
        · rw [map_bl]
          walk_at "s"
          refine t_bls ?_
          rw [all_id]
          walk_at "s"
          cases ha : cs.all (amB n) with
          | false => rw [ha, Bool.false_and] at k; walk_at "s"; exact finK (k _ (by first | exact Chg.app | exact Chg.app.tr Chg.app fun _ _ z => z))
          | true => walk_at "s"; exact ⟨by trivial, by trivial, by trivial⟩
      · rintro ρ' h' ⟨ha, rfl, rfl⟩
        rw [ha, Bool.true_and] at k
        have ei := ints_amB ha
        have il : (cs.map intD).length = cs.length := by simp
        generalize cs.map intD = ns at ei k il
        subst ei
        walk_at "s"
        refine t_lset ?_
        walk_at "s"
        refine t_kls snoc_get (by omega) ?_
        walk_at "s"
        have e2 : decide ((dlen ns : Int) = ((ns.map VV.int).length : Int)) = decide ns.Nodup := by
          rw [List.length_map, decide_eq_decide, ← dlen_full]
          constructor <;> intro z <;> omega
        rw [e2]
        exact finK (k _ (by first | exact Chg.app | exact Chg.app.tr Chg.app fun _ _ z => z))

def sWished : GC := fun as h Q => ∃ (n : Nat) (m : Int) (rows : List (List Int)), as = [tv rows] ∧ Tab n m rows ∧ ∀ (km : Nat) (h' : VH), Chg h h' (fun _ => False) → h'[km]? = some (.lst ((wis n rows).map nv)) → Q (.val (.ref km)) h'
theorem k_wished (x0 : VV) (h : VH) (QV : R → VH → Prop) (hs : sWished [x0] h QV) : bd_wished_cells { nx := fun _ h' => fin h.length QV (.val .non) h', rt := fin h.length QV } [some x0, none, none, none, none] h := by
  obtain ⟨n, m, rows, e, T, k⟩ := hs
  cases e
  have n6 := T.hi
  unfold bd_wished_cells
  walk_at "s"
  refine t_lc2 ?_
  walk_at "s"
  rw [enum_rows T]
  have e0 : (List.range n).flatMap (fun i => (List.range n).filterMap fun j => if aij rows i j ≠ 0 then some (nv (i, j)) else none) = (wis n rows).map nv := by
    unfold wis
    rw [List.map_flatMap]
    congr 1
    funext i
    rw [List.map_filterMap]
    congr 1
    funext j
    split <;> rfl
  have ll := wis_len (rows := rows) n6
  refine lcO_of (fun i : Nat => VV.tup [.int i, .tup ((rows.getD i []).map .int)]) (fun i => (List.range n).filterMap fun j => if aij rows i j ≠ 0 then some (nv (i, j)) else none) mono_gt2 (List.range n) [] (fun _ => trivial) (fun i hi acc hl => ?_) (by rw [List.nil_append, e0, List.length_map]; exact ll) ?_
  · have hi := List.mem_range.mp hi
    walk_at "s"
    rw [enum_row T hi]
    refine lcI_of (fun j : Nat => VV.tup [.int j, .int (aij rows i j)]) (fun j => if aij rows i j ≠ 0 then some (nv (i, j)) else none) mono_gt2 (List.range n) acc (fun _ => trivial) (by simp; omega) (fun j hj acc => ?_) ?_
    · walk_at "s"
      refine t_iteN (fun hc1 => ?_) (fun hc1 => ?_)
      · walk_at "s"
        exact ⟨if_neg fun z => z hc1, by trivial⟩
      · walk_at "s"
        exact ⟨if_pos hc1, by trivial⟩
    · rfl
  · rw [List.nil_append, e0]
    exact finK (finK (k _ _ Chg.app snoc_get))

def sWithin : GC := fun as h Q => ∃ (n : Nat) (m : Int) (rows : List (List Int)) (v : VV), as = [tv rows, v] ∧ Tab n m rows ∧ TyT h v ∧ (∀ xs, v = .tup xs → xs.length ≤ 1000) ∧ ∀ h', Chg h h' (fun _ => False) → Q (.val (.bl (withinB n rows v))) h'
theorem k_within (x0 x1 : VV) (h : VH) (QV : R → VH → Prop) (hs : sWithin [x0, x1] h QV) : bd_is_within sPairing sCells { nx := fun _ h' => fin h.length QV (.val .non) h', rt := fin h.length QV } [some x0, some x1, none, none] h := by
  obtain ⟨n, m, rows, v, e, T, ht, hl, k⟩ := hs
  cases e
  unfold bd_is_within
  walk_at "s"
  refine t_seq ?_
  walk_at "s"
  refine ⟨n, x1, by rw [List.length_map, T.len], ht, hl, fun h2 C2 => ?_⟩
  walk_at "s"
  cases hp : pairB n x1 with
  | false =>
    walk_at "s"
    rw [show withinB n rows x1 = false by unfold withinB; rw [hp, Bool.false_and]] at k
    exact finK (k _ C2)
  | true =>
    obtain ⟨n2, n6, os, rfl, P⟩ := of_pairB hp
    rw [within_os n2 n6 P] at k
    have ol := P.len
    walk_at "s"
    refine ⟨_, os, rfl, rfl, by omega, ?_⟩
    have cl := cel_len os
    walk_at "s"
    refine lc_mp cv (cel os) (fun p => .bl (aij rows p.1 p.2.toNat != 0)) rfl (by omega) (by trivial) (fun p hp => ?_) ?_
    · obtain ⟨i, j⟩ := p
      have hm := mem_cel.mp hp
      have hi : i < n := by rw [← ol]; exact (List.getElem?_eq_some_iff.mp hm).1
      have hj := P.rng j (List.mem_of_getElem? hm)
      have g1 := tab_ix T hi
      have g2 := row_ix T hi hj.1 hj.2
      unfold cv
      walk_at "s"
      exact ⟨by simp [bne, Bool.beq_eq_decide_eq], by trivial⟩
    · rw [map_bl]
      refine t_bls ?_
      rw [all_id]
      exact finK (k _ C2)
def sFull : GC := fun as h Q => ∃ (n : Nat) (m : Int) (rows : List (List Int)) (v : VV), as = [tv rows, v] ∧ Tab n m rows ∧ TyT h v ∧ (∀ xs, v = .tup xs → xs.length ≤ 1000) ∧ ∀ h', Chg h h' (fun _ => False) → Q (.val (.bl (fullB n rows v))) h'
theorem k_full (x0 x1 : VV) (h : VH) (QV : R → VH → Prop) (hs : sFull [x0, x1] h QV) : bd_is_full sWithin sWished { nx := fun _ h' => fin h.length QV (.val .non) h', rt := fin h.length QV } [some x0, some x1, none, none] h := by
  obtain ⟨n, m, rows, v, e, T, ht, hl, k⟩ := hs
  cases e
  unfold bd_is_full
  walk_at "s"
  refine t_seq ?_
  walk_at "s"
  refine ⟨n, m, rows, x1, rfl, T, ht, hl, fun h2 C2 => ?_⟩
  walk_at "s"
  cases hw : withinB n rows x1 with
  | false =>
    walk_at "s"
    rw [show fullB n rows x1 = false by unfold fullB; rw [hw, Bool.false_and]] at k
    exact finK (k _ C2)
  | true =>
    have hp : pairB n x1 = true := by unfold withinB at hw; rw [Bool.and_eq_true] at hw; exact hw.1
    obtain ⟨n2, n6, os, rfl, P⟩ := of_pairB hp
    rw [full_os hw] at k
    have ol := P.len
    walk_at "s"
    refine ⟨n, m, rows, rfl, T, fun kw h3 C3 gw => ?_⟩
    have C2 := C2.tr C3 fun _ _ z => z
    walk_at "s"
    have wl : (wis n rows).length ≤ 50000 := wis_len n6
    refine t_ks (seq_lst gw) ?_
    refine lc_mp nv (wis n rows) (fun p => .bl ((os.getD p.1 none).isSome || decide (some (p.2 : Int) ∈ os))) rfl wl gw (fun p hp => ?_) ?_
    · obtain ⟨i, j⟩ := p
      obtain ⟨hi, hj, _⟩ := mem_wis.mp hp
      have g3 := ov_ix (os := os) (i := i) (by omega)
      unfold nv
      walk_at "s"
      cases e : os.getD i none with
      | some z =>
        rw [show (!isNon (R.val (ov (some z)))) = true from rfl]
        walk_at "s"
        exact ⟨by simp [e], by trivial⟩
      | none =>
        rw [show (!isNon (R.val (ov none))) = false from rfl]
        walk_at "s"
        refine t_in (inB_ovt os j) ?_
        walk_at "s"
        exact ⟨by simp [e], by trivial⟩
    · rw [map_bl]
      refine t_bls ?_
      rw [all_id]
      exact finK (k _ C2)

theorem emod_pred {x n : Int} (hn : 0 < n) : (x - 1) % n = if x % n = 0 then n - 1 else x % n - 1 := by
  have e := Int.emod_add_mul_ediv x n
  have h0 := Int.emod_nonneg x (b := n) (by omega)
  have h1 := Int.emod_lt_of_pos x hn
  split
  · rename_i z
    have : x - 1 = (n - 1) + n * (x / n - 1) := by rw [Int.mul_sub, Int.mul_one]; omega
    rw [this, Int.add_mul_emod_self_left]
    exact Int.emod_eq_of_lt (by omega) (by omega)
  · rename_i z
    have : x - 1 = (x % n - 1) + n * (x / n) := by omega
    rw [this, Int.add_mul_emod_self_left]
    exact Int.emod_eq_of_lt (by omega) (by omega)
/-- beats till the cell is asked first -/
def dl (n : Nat) (b : Int) (c : Nat) : Int := (((c % n : Nat) : Int) - ((c / n : Nat) : Int) - b) % (n : Int)
theorem dl_nn {n : Nat} {b : Int} {c : Nat} (hn : 0 < n) : 0 ≤ dl n b c ∧ dl n b c < n := ⟨Int.emod_nonneg _ (by omega), Int.emod_lt_of_pos _ (by omega)⟩
theorem dl_next {n : Nat} {b : Int} {c : Nat} (hn : 0 < n) : dl n (b + 1) c = if dl n b c = 0 then (n : Int) - 1 else dl n b c - 1 := by
  unfold dl
  rw [← emod_pred (by omega)]
  congr 1
  omega
theorem wv_first {n : Nat} {rows : List (List Int)} {b : Int} : ∀ k, k ≤ n → ∀ a z, (wv n rows b k).getD a none = some z → a < k ∧ z = ((a : Int) + b) % n
  | 0, _, a, z, h => by
    rw [wv_zero, List.getD_eq_getElem?_getD, List.getElem?_replicate] at h
    split at h <;> cases h
  | k + 1, hk, a, z, h => by
    have ih := wv_first (n := n) (rows := rows) (b := b) k (by omega)
    rw [wv_at (k := k) (d := 0) (r := k) (by omega) (by omega)] at h
    split at h
    · by_cases e : a = k
      · subst e
        rw [List.getD_eq_getElem?_getD, List.getElem?_set_self (by rw [wv_len]; omega)] at h
        have := Option.some.inj h
        exact ⟨Nat.lt_succ_self _, by rw [← this, show ((0 : Nat) : Int) = 0 from rfl, Int.add_zero]⟩
      · rw [List.getD_eq_getElem?_getD, List.getElem?_set_ne (fun x => e x.symm), ← List.getD_eq_getElem?_getD] at h
        have := ih a z h
        exact ⟨by omega, this.2⟩
    · have := ih a z h
      exact ⟨by omega, this.2⟩
theorem emod_inj {n a i b : Int} (a0 : 0 ≤ a) (a1 : a < n) (i0 : 0 ≤ i) (i1 : i < n) (e : (a + b) % n = (i + b) % n) : a = i := by
  have h := Int.emod_emod_of_dvd (a - i) (Int.dvd_refl n)
  have : (a - i) % n = 0 := by
    have : a - i = (a + b) - (i + b) := by omega
    rw [this, Int.sub_emod, e, Int.sub_self, Int.zero_emod]
  by_cases c : i ≤ a
  · rw [Int.emod_eq_of_lt (by omega) (by omega)] at this
    omega
  · have e2 : (a - i) % n = (a - i + n) % n := (Int.add_emod_right (a - i) n).symm
    rw [e2, Int.emod_eq_of_lt (by omega) (by omega)] at this
    omega
/-- the wave serves each wished cell of its first diagonal -/
theorem wave_serves {n : Nat} {rows : List (List Int)} {b : Int} {i j : Nat} (hi : i < n) (hj : j < n) (hne : aij rows i j ≠ 0) (h : ((j : Int) - i - b) % n = 0) : (waveF n rows b).getD i none = some (j : Int) := by
  have ej : ((i : Int) + b) % n = j := by
    have e : (j : Int) - ((i : Int) + b) = (j : Int) - i - b := by omega
    have h2 : ((j : Int) - ((i : Int) + b)) % n = 0 := by rw [e]; exact h
    have h3 := Int.emod_emod_of_dvd ((i : Int) + b) (Int.dvd_refl (n : Int))
    have h4 : (j : Int) % n = ((i : Int) + b) % n := Int.emod_eq_emod_iff_emod_sub_eq_zero.mpr h2
    rw [← h4]
    exact Int.emod_eq_of_lt (by omega) (by omega)
  have st : (wv n rows b (i + 1)).getD i none = some (j : Int) := by
    rw [wv_at (k := i) (d := 0) (r := i) hi (by omega)]
    have e2 : ((i : Int) + b + ((0 : Nat) : Int)) % n = j := by rw [show ((0 : Nat) : Int) = 0 from rfl, Int.add_zero]; exact ej
    have F := wv_first (n := n) (rows := rows) (b := b) i (by omega)
    rw [e2, if_pos]
    · rw [List.getD_eq_getElem?_getD, List.getElem?_set_self (by rw [wv_len]; omega)]; rfl
    · refine ⟨by rw [Int.toNat_natCast]; exact hne, ?_, fun hm => ?_⟩
      · cases q : (wv n rows b i).getD i none with
        | none => rfl
        | some z => have := (F i z q).1; omega
      · obtain ⟨a, ha⟩ := List.mem_iff_getElem?.mp hm
        have hl := (List.getElem?_eq_some_iff.mp ha).1
        rw [wv_len] at hl
        have f := F a j (by rw [List.getD_eq_getElem?_getD, ha]; rfl)
        have := emod_inj (n := n) (a := a) (i := i) (b := b) (by omega) (by omega) (by omega) (by omega) (by rw [← f.2, ej])
        omega
  obtain ⟨d, hd⟩ : ∃ d, n * n = (i + 1) + d := ⟨n * n - (i + 1), by have := Nat.mul_le_mul (show 1 ≤ n by omega) (Nat.le_refl n); omega⟩
  unfold waveF
  rw [hd]
  exact wv_keep st d
/-- the pieces of a cell, in the order in which they came -/
def idx (pc : List (Nat × Int)) (c : Nat) : List Int := ((List.range pc.length).filter fun k => decide ((pc.getD k (0, 0)).1 = c)).map fun k : Nat => (k : Int)
theorem idx_snoc {pc : List (Nat × Int)} {p : Nat × Int} {c : Nat} : idx (pc ++ [p]) c = idx pc c ++ (if p.1 = c then [(pc.length : Int)] else []) := by
  unfold idx
  rw [List.length_append, List.length_singleton, List.range_succ, List.filter_append, List.map_append]
  congr 1
  · congr 1
    refine List.filter_congr fun k hk => ?_
    have := List.mem_range.mp hk
    rw [List.getD_eq_getElem?_getD, List.getElem?_append_left this, ← List.getD_eq_getElem?_getD]
  · have : (pc ++ [p]).getD pc.length (0, 0) = p := by rw [List.getD_eq_getElem?_getD, List.getElem?_append_right (Nat.le_refl _), Nat.sub_self]; rfl
    rw [List.filter_cons, this]
    by_cases z : p.1 = c
    · rw [if_pos (decide_eq_true z), if_pos z]; rfl
    · rw [if_neg (by simpa using z), if_neg z]; rfl
structure S53 (n : Nat) (b : Int) (st : Nat → List (Int × Int)) (pc : List (Nat × Int)) (gn : Nat → List Int) : Prop where
  A : ∀ c, c < n * n → gn c ++ (st c).map Prod.fst = idx pc c
  B : ∀ c, c < n * n → ∀ (r : Nat) (q s : Int), (st c)[r]? = some (q, s) → ∃ (k : Nat) (τ : Int), q = k ∧ pc[k]? = some (c, τ) ∧ b + dl n b c + r * n < s + n * τ
  C : ∀ p ∈ pc, p.1 < n * n
theorem S53.new {n : Nat} : S53 n 0 (fun _ => []) [] (fun _ => []) := ⟨fun c _ => rfl, fun c _ r q s e => (by simp at e), fun p hp => (by cases hp)⟩
theorem S53.come {n : Nat} {b : Int} {st : Nat → List (Int × Int)} {pc : List (Nat × Int)} {gn : Nat → List Int} (S : S53 n b st pc gn) (hn : 0 < n) {c : Nat} (hc : c < n * n) : S53 n b (upS st c (st c ++ [(((pc.length : Nat) : Int), b)])) (pc ++ [(c, ((st c).length : Int) + 1)]) gn := by
  refine ⟨fun d hd => ?_, fun d hd r q s e => ?_, fun p hp => ?_⟩
  · rw [idx_snoc, ← S.A d hd]
    unfold upS
    by_cases z : d = c
    · subst z
      rw [if_pos rfl, if_pos rfl, List.map_append, List.append_assoc]; rfl
    · rw [if_neg z, if_neg (fun w => z w.symm), List.append_nil]
  · have old : ∀ {r : Nat} {q s : Int}, (st d)[r]? = some (q, s) → ∃ (k : Nat) (τ : Int), q = k ∧ (pc ++ [(c, ((st c).length : Int) + 1)])[k]? = some (d, τ) ∧ b + dl n b d + r * n < s + n * τ := fun {r q s} e => by
      obtain ⟨k, τ, e1, e2, e3⟩ := S.B d hd r q s e
      exact ⟨k, τ, e1, by rw [List.getElem?_append_left (List.getElem?_eq_some_iff.mp e2).1]; exact e2, e3⟩
    unfold upS at e
    by_cases z : d = c
    · subst z
      rw [if_pos rfl] at e
      by_cases l : r < (st d).length
      · rw [List.getElem?_append_left l] at e
        exact old e
      · have l2 := (List.getElem?_eq_some_iff.mp e).1
        rw [List.length_append, List.length_singleton] at l2
        have : r = (st d).length := by omega
        subst this
        rw [List.getElem?_append_right (Nat.le_refl _), Nat.sub_self] at e
        cases e
        refine ⟨pc.length, ((st d).length : Int) + 1, rfl, by rw [List.getElem?_append_right (Nat.le_refl _), Nat.sub_self]; rfl, ?_⟩
        have := (dl_nn (b := b) (c := d) hn).2
        rw [Int.mul_add, Int.mul_one, Int.mul_comm]
        omega
    · rw [if_neg z] at e
      exact old e
  · rcases List.mem_append.mp hp with h | h
    · exact S.C p h
    · rw [List.mem_singleton.mp h]; exact hc
theorem cnts_at {n : Nat} {st : Nat → List (Int × Int)} {i j : Nat} (hi : i < n) (hj : j < n) : aij (cnts n st) i j = ((st (i * n + j)).length : Int) := by
  unfold aij cnts
  rw [range_get _ _ hi]
  unfold cntR
  rw [range_get _ _ hj]
theorem cnts_go {n : Nat} {st : Nat → List (Int × Int)} {os : List (Option Int)} (w : WithinP n (cnts n st) os) : cnts n (goSt n os st) = lessP n (cnts n st) os := by
  unfold lessP
  show (List.range n).map (fun i => cntR n (goSt n os st) i) = _
  refine List.map_congr_left fun i hi => ?_
  unfold cntR
  refine List.map_congr_left fun j hj => ?_
  have hi := List.mem_range.mp hi
  have hj := List.mem_range.mp hj
  rw [goSt_at hj, cnts_at hi hj]
  by_cases z : os.getD i none = some (j : Int)
  · rw [if_pos z, if_pos z, List.length_tail]
    have := w i j hi hj z
    rw [cnts_at hi hj] at this
    omega
  · rw [if_neg z, if_neg z]
def midG (n : Nat) (ps : List (Nat × Int)) (st : Nat → List (Int × Int)) (gn : Nat → List Int) : Nat → List Int := fun c => if (c / n, ((c % n : Nat) : Int)) ∈ ps then gn c ++ [((st c).headD (0, 0)).1] else gn c
theorem cell_lt {n c : Nat} (hc : c < n * n) : c / n < n ∧ c % n < n ∧ c / n * n + c % n = c := by
  have hn : 0 < n := by
    rcases Nat.eq_zero_or_pos n with h | h
    · subst h; simp at hc
    · exact h
  refine ⟨Nat.div_lt_of_lt_mul hc, Nat.mod_lt _ hn, ?_⟩
  rw [Nat.mul_comm]; exact Nat.div_add_mod c n
theorem S53.beat {n : Nat} {b : Int} {st : Nat → List (Int × Int)} {pc : List (Nat × Int)} {gn : Nat → List Int} (S : S53 n b st pc gn) (hn : 0 < n) (w : WithinP n (cnts n st) (waveF n (cnts n st) b)) : S53 n (b + 1) (goSt n (waveF n (cnts n st) b) st) pc (midG n (cel (waveF n (cnts n st) b)) st gn) := by
  have key : ∀ c, c < n * n → ((c / n, ((c % n : Nat) : Int)) ∈ cel (waveF n (cnts n st) b) ↔ (waveF n (cnts n st) b).getD (c / n) none = some ((c % n : Nat) : Int)) := fun c hc => by rw [mem_cel, getD_some]
  have ne : ∀ c, c < n * n → (waveF n (cnts n st) b).getD (c / n) none = some ((c % n : Nat) : Int) → ∃ q s l, st c = (q, s) :: l := fun c hc h => by
    obtain ⟨c1, c2, c3⟩ := cell_lt hc
    have := w _ _ c1 c2 h
    rw [cnts_at c1 c2, c3] at this
    cases e : st c with
    | nil => rw [e] at this; exact absurd rfl this
    | cons x l => exact ⟨x.1, x.2, l, rfl⟩
  refine ⟨fun c hc => ?_, fun c hc r q s e => ?_, S.C⟩
  · rw [← S.A c hc]
    unfold midG goSt
    by_cases z : (waveF n (cnts n st) b).getD (c / n) none = some ((c % n : Nat) : Int)
    · obtain ⟨q, s, l, e⟩ := ne c hc z
      rw [if_pos ((key c hc).mpr z), if_pos z, e, List.append_assoc]
      rfl
    · rw [if_neg (fun y => z ((key c hc).mp y)), if_neg z]
  · have d0 := dl_nn (b := b) (c := c) hn
    have dn := dl_next (b := b) (c := c) hn
    unfold goSt at e
    by_cases z : (waveF n (cnts n st) b).getD (c / n) none = some ((c % n : Nat) : Int)
    · rw [if_pos z] at e
      obtain ⟨q', s', l, e'⟩ := ne c hc z
      rw [e'] at e
      have e2 : (st c)[r + 1]? = some (q, s) := by rw [e']; exact e
      obtain ⟨k, τ, e3, e4, e5⟩ := S.B c hc (r + 1) q s e2
      refine ⟨k, τ, e3, e4, ?_⟩
      rw [show ((r + 1 : Nat) : Int) * (n : Int) = r * n + n by rw [Int.natCast_add, Int.add_mul]; simp] at e5
      rw [dn]
      split <;> omega
    · rw [if_neg z] at e
      obtain ⟨k, τ, e3, e4, e5⟩ := S.B c hc r q s e
      refine ⟨k, τ, e3, e4, ?_⟩
      have nz : dl n b c ≠ 0 := fun h => by
        obtain ⟨c1, c2, c3⟩ := cell_lt hc
        refine z (wave_serves c1 c2 ?_ h)
        rw [cnts_at c1 c2, c3]
        have := (List.getElem?_eq_some_iff.mp e).1
        omega
      rw [dn, if_neg nz]
      omega
/-- a piece that goes waited less -/
theorem S53.head {n : Nat} {b : Int} {st : Nat → List (Int × Int)} {pc : List (Nat × Int)} {gn : Nat → List Int} (S : S53 n b st pc gn) (hn : 0 < n) {c : Nat} (hc : c < n * n) (ne : st c ≠ []) : ∃ (k : Nat) (τ : Int), ((st c).headD (0, 0)).1 = k ∧ pc[k]? = some (c, τ) ∧ b - ((st c).headD (0, 0)).2 < n * τ := by
  cases e : st c with
  | nil => exact absurd e ne
  | cons x l =>
    obtain ⟨q, s⟩ := x
    obtain ⟨k, τ, e1, e2, e3⟩ := S.B c hc 0 q s (by rw [e]; rfl)
    have := (dl_nn (b := b) (c := c) hn).1
    refine ⟨k, τ, e1, e2, ?_⟩
    show b - s < n * τ
    rw [show ((0 : Nat) : Int) * (n : Int) = 0 by simp] at e3
    omega

def Dw (h : VH) (b : Int) : Prop := ∃ (ns : List Int) (s : Ur) (r : VH), h = TH ns s r ∧ s.Ok b
theorem th_chg {ns : List Int} {s s' : Ur} {r : VH} : Chg (TH ns s r) (TH ns s' r) (fun b => b = 1) := ⟨by rw [th_len, th_len]; exact Nat.le_refl _, fun a ha na => by
  match a with
  | 0 => rfl
  | 1 => exact absurd rfl na
  | a + 2 => rfl⟩
theorem Dw.chg {h h' : VH} {b : Int} {A : Nat → Prop} (d : Dw h b) (c : Chg h h' A) (n0 : ¬ A 0) (n1 : ¬ A 1) : Dw h' b := by
  obtain ⟨ns, s, r, rfl, ok⟩ := d
  have l := c.len
  rw [th_len] at l
  have e0 := c.old 0 (by rw [th_len]; omega) n0
  have e1 := c.old 1 (by rw [th_len]; omega) n1
  refine ⟨ns, s, h'.drop 2, ?_, ok⟩
  apply List.ext_getElem?
  intro x
  match x with
  | 0 => rw [e0]; rfl
  | 1 => rw [e1]; rfl
  | x + 2 =>
    show _ = (h'.drop 2)[x]?
    rw [List.getElem?_drop]; congr 1; omega
theorem t_draw {h : VH} {b n : Int} {Q : R → VH → Prop} (d : Dw h b) (n0 : 0 < n) (n1 : n ≤ 1000000) (hb : b ≤ 1000000) (q : ∀ (v : Int) (h' : VH), 0 ≤ v → v < n → Dw h' (b + 1) → Chg h h' (fun x => x = 1) → h'.length = h.length → Q (.val (.int v)) h') : sDraw [.ref 1, .int n] h Q := by
  obtain ⟨ns, s, r, rfl, ok⟩ := d
  exact ⟨ns, s, r, n, b, rfl, rfl, n0, Int.lt_of_le_of_lt n1 (by decide), ok, by omega, fun v s' v0 v1 ok' => q v _ v0 v1 ⟨ns, s', r, rfl, ok'⟩ th_chg (by rw [th_len, th_len])⟩
theorem Dw.mono {h : VH} {a b : Int} (d : Dw h a) (l : a ≤ b) : Dw h b := by
  obtain ⟨ns, s, r, e, ok⟩ := d
  exact ⟨ns, s, r, e, ok.mono l⟩
theorem atI_map {α : Type} {F : α → VV} {xs : List α} {v : Int} (v0 : 0 ≤ v) (v1 : v < xs.length) : ∃ x ∈ xs, atI (xs.map F) v = some (F x) := by
  obtain ⟨m, rfl⟩ : ∃ m : Nat, v = m := ⟨v.toNat, by omega⟩
  have hm : m < xs.length := by omega
  refine ⟨xs[m], List.getElem_mem hm, ?_⟩
  rw [atI_ofInt (by omega) (by rw [List.length_map]; omega)]
  simp [hm]
theorem Dw.len {h : VH} {b : Int} (d : Dw h b) : 2 ≤ h.length := by
  obtain ⟨ns, s, r, rfl, ok⟩ := d
  rw [th_len]; omega

theorem Fr.chg {h h' : VH} {lo hi : Nat} (f : Fr h h' lo hi) : Chg h h' (fun x => lo ≤ x ∧ x < hi) := ⟨f.1, fun a ha na => f.2 a ha (by omega)⟩
theorem Kp.chg {C : Addr} {h h' : VH} {p n : Nat} {came beats : Int} {st : Nat → List (Int × Int)} {A : Nat → Prop} (K : Kp C h p n came beats st) (c : Chg h h' A) (d : ∀ x, A x → x < p ∨ p + 3 + n * n ≤ x) : Kp C h' p n came beats st := by
  obtain ⟨ks, vs, e1, e2⟩ := K.dct
  exact ⟨c.get K.ins (fun z => by have := d _ z; omega), ⟨ks, vs, c.get e1 (fun z => by have := d _ z; omega), e2⟩, fun q hq => c.get (K.cel q hq) (fun z => by have := d _ z; omega)⟩
def cKey (n c : Nat) : List Key := K2 ((c / n : Nat) : Int) ((c % n : Nat) : Int)
structure G53 (h : VH) (D gl n : Nat) (gn : Nat → List Int) : Prop where
  dct : h[D]? = some (.dtu ((List.range (n * n)).map (cKey n)) ((List.range (n * n)).map fun c => .ref (gl + c)))
  cel : ∀ c, c < n * n → h[gl + c]? = some (.lst ((gn c).map .int))
theorem G53.chg {h h' : VH} {D gl n : Nat} {gn : Nat → List Int} {A : Nat → Prop} (G : G53 h D gl n gn) (c : Chg h h' A) (d1 : ¬ A D) (d2 : ∀ q, q < n * n → ¬ A (gl + q)) : G53 h' D gl n gn := ⟨c.get G.dct d1, fun q hq => c.get (G.cel q hq) (d2 q hq)⟩
theorem g_key {n c gl : Nat} (hc : c < n * n) : vG ((List.range (n * n)).map (cKey n)) ((List.range (n * n)).map fun c => VV.ref (gl + c)) (cKey n c) = some (.ref (gl + c)) :=
  vG_inj (key := cKey n) (val := fun c => VV.ref (gl + c)) (List.mem_range.mpr hc) fun y _ e => key_inj e
theorem g_key2 {n i j gl : Nat} (hi : i < n) (hj : j < n) : vG ((List.range (n * n)).map (cKey n)) ((List.range (n * n)).map fun c => VV.ref (gl + c)) (K2 (i : Int) (j : Int)) = some (.ref (gl + (i * n + j))) := by
  have hc : i * n + j < n * n := by
    have := Nat.mul_le_mul_right n (show i + 1 ≤ n by omega)
    rw [Nat.add_mul, Nat.one_mul] at this
    omega
  have e : cKey n (i * n + j) = K2 (i : Int) (j : Int) := by
    unfold cKey
    rw [flat_div hj, flat_mod hj]
  rw [← e]
  exact g_key hc
theorem G53.set {h : VH} {D gl n c : Nat} {gn : Nat → List Int} (G : G53 h D gl n gn) (hc : c < n * n) (d : D < gl ∨ gl + n * n ≤ D) (l : List Int) : G53 (h.set (gl + c) (.lst (l.map .int))) D gl n (fun q => if q = c then l else gn q) := by
  refine ⟨by rw [List.getElem?_set_ne (by omega)]; exact G.dct, fun q hq => ?_⟩
  by_cases z : q = c
  · subst z
    rw [if_pos rfl, List.getElem?_set_self (List.getElem?_eq_some_iff.mp (G.cel q hq)).1]
  · rw [if_neg z, List.getElem?_set_ne (by omega)]
    exact G.cel q hq
def pcV (n : Nat) (p : Nat × Int) : VV := .tup [.int ((p.1 / n : Nat) : Int), .int ((p.1 % n : Nat) : Int), .int p.2]
theorem sum_rows {f : Nat → Int} {n : Nat} : ∀ a : Nat, ((List.range a).map fun i => ((List.range n).map fun j => f (i * n + j)).sum).sum = ((List.range (a * n)).map f).sum
  | 0 => by simp
  | a + 1 => by
    rw [List.range_succ, List.map_append, List.sum_append, sum_rows a, Nat.add_mul, Nat.one_mul, List.range_add, List.map_append, List.sum_append, List.map_map]
    simp [Function.comp_def]
theorem sum_split {n : Nat} : ∀ pc : List (Nat × Int), (∀ p ∈ pc, p.1 < n) → ((List.range n).map fun c => ((pc.filter fun p => decide (p.1 = c)).length : Int)).sum = pc.length
  | [], _ => by
    have : ((List.range n).map fun c => ((([] : List (Nat × Int)).filter fun p => decide (p.1 = c)).length : Int)) = (List.range n).map fun _ => (0 : Int) := rfl
    rw [this]
    induction List.range n with
    | nil => rfl
    | cons x l ih => simpa using ih
  | p :: pc, h => by
    have ih := sum_split pc fun q hq => h q (by simp [hq])
    have hp := h p (by simp)
    have : ((List.range n).map fun c => (((p :: pc).filter fun q => decide (q.1 = c)).length : Int)) = (List.range n).map fun c => ((pc.filter fun q => decide (q.1 = c)).length : Int) + (if p.1 = c then 1 else 0) := List.map_congr_left fun c _ => by
      by_cases z : p.1 = c
      · rw [List.filter_cons, if_pos (decide_eq_true z), if_pos z]; simp
      · rw [List.filter_cons, if_neg (by simpa using z), if_neg z]; simp
    rw [this, List.length_cons]
    have split : ∀ (f g : Nat → Int) (l : List Nat), (l.map fun c => f c + g c).sum = (l.map f).sum + (l.map g).sum := fun f g l => by
      induction l with
      | nil => rfl
      | cons x l ih => simp only [List.map_cons, List.sum_cons, ih]; omega
    rw [split, ih]
    have one : ∀ m, ((List.range m).map fun c => if p.1 = c then (1 : Int) else 0).sum = if p.1 < m then 1 else 0 := fun m => by
      induction m with
      | zero => rfl
      | succ m ih =>
        rw [List.range_succ, List.map_append, List.sum_append, ih]
        by_cases z : p.1 = m
        · rw [if_neg (by omega), if_pos (by omega)]; simp [z]
        · by_cases y : p.1 < m
          · rw [if_pos y, if_pos (by omega)]; simp [z]
          · rw [if_neg y, if_neg (by omega)]; simp [z]
    rw [one, if_pos hp]
    omega
theorem idx_len {pc : List (Nat × Int)} {c : Nat} : (idx pc c).length = (pc.filter fun p => decide (p.1 = c)).length := by
  unfold idx
  rw [List.length_map]
  have : pc.filter (fun p => decide (p.1 = c)) = ((List.range pc.length).filter fun k => decide ((pc.getD k (0, 0)).1 = c)).map fun k => pc.getD k (0, 0) := by
    have e : pc = (List.range pc.length).map fun k => pc.getD k (0, 0) := by
      apply List.ext_getElem?
      intro i
      rw [List.getElem?_map]
      by_cases h : i < pc.length
      · rw [List.getElem?_range h, List.getElem?_eq_getElem h, Option.map_some, List.getD_eq_getElem?_getD, List.getElem?_eq_getElem h]; rfl
      · rw [List.getElem?_eq_none (by omega), List.getElem?_eq_none (by simpa using h)]; rfl
    conv => lhs; rw [e]
    rw [List.filter_map]
    rfl
  rw [this, List.length_map]
/-- as many stand as came and didn't go -/
theorem S53.total {n : Nat} {b : Int} {st : Nat → List (Int × Int)} {pc : List (Nat × Int)} {gn : Nat → List Int} (S : S53 n b st pc gn) : ((List.range n).map fun i => (cntR n st i).sum).sum = (pc.length : Int) - ((List.range (n * n)).map fun c => ((gn c).length : Int)).sum := by
  have h1 : ((List.range n).map fun i => (cntR n st i).sum).sum = ((List.range (n * n)).map fun c => ((st c).length : Int)).sum := sum_rows (f := fun c => ((st c).length : Int)) n
  have h2 := sum_split pc S.C
  have h3 : ((List.range (n * n)).map fun c => ((pc.filter fun p => decide (p.1 = c)).length : Int)) = (List.range (n * n)).map fun c => ((gn c).length : Int) + ((st c).length : Int) := List.map_congr_left fun c hc => by
    rw [← idx_len, ← S.A c (List.mem_range.mp hc), List.length_append, List.length_map]; simp
  have split : ∀ (f g : Nat → Int) (l : List Nat), (l.map fun c => f c + g c).sum = (l.map f).sum + (l.map g).sum := fun f g l => by
    induction l with
    | nil => rfl
    | cons x l ih => simp only [List.map_cons, List.sum_cons, ih]; omega
  rw [h3, split] at h2
  omega
theorem S53.len {n : Nat} {b : Int} {st : Nat → List (Int × Int)} {pc : List (Nat × Int)} {gn : Nat → List Int} (S : S53 n b st pc gn) {c : Nat} (hc : c < n * n) : (gn c).length + (st c).length ≤ pc.length := by
  have h1 := congrArg List.length (S.A c hc)
  rw [List.length_append, List.length_map, idx_len] at h1
  have := List.length_filter_le (fun p : Nat × Int => decide (p.1 = c)) pc
  omega

theorem at_get {α : Type} {F : α → VV} {l : List α} {k : Nat} {x : α} (h : l[k]? = some x) : atI (l.map F) (k : Int) = some (F x) := by
  have hl := (List.getElem?_eq_some_iff.mp h).1
  rw [atI_ofInt (by omega) (by rw [List.length_map]; omega), Int.toNat_natCast, List.getElem?_map, h]; rfl
/-- the pairing as far as it is told -/
def prL (n : Nat) (os : List (Option Int)) (ps : List (Nat × Int)) : List (Option Int) := (List.range n).map fun i => if i ∈ ps.map Prod.fst then os.getD i none else none
theorem cel_rows {os : List (Option Int)} : ((cel os).map Prod.fst).Nodup := by
  refine List.pairwise_map.mpr (List.Pairwise.imp_of_mem (fun {x y} hx hy hne e => hne ?_) nodup_cel)
  obtain ⟨i, j⟩ := x
  obtain ⟨i', j'⟩ := y
  have h1 := mem_cel.mp hx
  have h2 := mem_cel.mp hy
  have e : i = i' := e
  subst e
  rw [h1] at h2
  cases h2
  rfl
theorem prL_all {n : Nat} {os : List (Option Int)} (l : os.length = n) : prL n os (cel os) = os := by
  apply List.ext_getElem?
  intro i
  unfold prL
  rw [List.getElem?_map]
  by_cases h : i < n
  · rw [List.getElem?_range h, Option.map_some, List.getElem?_eq_getElem (by omega)]
    congr 1
    have e : os.getD i none = os[i]'(by omega) := by rw [List.getD_eq_getElem?_getD, List.getElem?_eq_getElem (by omega)]; rfl
    rw [e]
    cases q : os[i]'(by omega) with
    | none => split <;> rfl
    | some j => rw [if_pos (List.mem_map.mpr ⟨(i, j), mem_cel.mpr (by rw [List.getElem?_eq_getElem (by omega), q]), rfl⟩)]
  · rw [List.getElem?_eq_none (by simpa using h), List.getElem?_eq_none (by omega)]; rfl
def sTaken53 (C : Addr) : GC := fun as h Q => ∃ (p n P D gl : Nat) (b : Int) (st : Nat → List (Int × Int)) (pc : List (Nat × Int)) (gn : Nat → List Int), as = [.ref p, .int n, .ref P, .ref D] ∧ Kp C h p n (pc.length : Nat) b st ∧ S53 n b st pc gn ∧ h[P]? = some (.lst (pc.map (pcV n))) ∧ G53 h D gl n gn ∧ 2 ≤ n ∧ n ≤ 6 ∧ pc.length ≤ 200 ∧ (∀ p ∈ pc, 0 ≤ p.2 ∧ p.2 ≤ 300) ∧
  (P < p ∨ p + 3 + n * n ≤ P) ∧ (D < p ∨ p + 3 + n * n ≤ D) ∧ (gl + n * n ≤ p ∨ p + 3 + n * n ≤ gl) ∧ (P < gl ∨ gl + n * n ≤ P) ∧ (D < gl ∨ gl + n * n ≤ D) ∧
  ∀ h', Kp C h' p n (pc.length : Nat) (b + 1) (goSt n (waveF n (cnts n st) b) st) → S53 n (b + 1) (goSt n (waveF n (cnts n st) b) st) pc (midG n (cel (waveF n (cnts n st) b)) st gn) → G53 h' D gl n (midG n (cel (waveF n (cnts n st) b)) st gn) → Chg h h' (fun x => (p ≤ x ∧ x < p + 3 + n * n) ∨ (gl ≤ x ∧ x < gl + n * n)) → Q (.val (.bl true)) h'
set_option maxHeartbeats 2000000 in
theorem k_taken53 {C : Addr} (x0 x1 x2 x3 : VV) (h : VH) (QV : R → VH → Prop) (hs : sTaken53 C [x0, x1, x2, x3] h QV) : bd_u_law_taken C (sKTab C) (sBeat C) sFull { nx := fun _ h' => fin h.length QV (.val .non) h', rt := fin h.length QV } [some x0, some x1, some x2, some x3, none, none, none, none, none, none, none] h := by
  obtain ⟨p, n, P, D, gl, b, st, pc, gn, e, K, S, hP, G, n2, n6, pl, pt, a1, a2, a3, a4, a5, q⟩ := hs
  cases e
  have n0 : 0 < n := by omega
  have sl : ∀ c, c < n * n → (st c).length ≤ 200 := fun c hc => by have := S.len hc; omega
  have gnl : ∀ c, c < n * n → (gn c).length ≤ 200 := fun c hc => by have := S.len hc; omega
  have T := tab_cnts n2 n6 sl
  obtain ⟨os, hos⟩ : ∃ os, waveF n (cnts n st) b = os := ⟨_, rfl⟩
  have Pr : Pair n os := by rw [← hos]; exact wave_pair n0
  have W : WithinP n (cnts n st) os := by rw [← hos]; exact (wv_ok n0 (n * n)).wi
  have Fu : FullP n (cnts n st) os := by rw [← hos]; exact wv_full n0
  have Sb := S.beat n0 (by rw [hos]; exact W)
  rw [hos] at q Sb
  unfold bd_u_law_taken
  walk_at "s"
  refine t_kmeth K.ins ?_
  walk_at "s"
  refine ⟨p, n, _, b, st, rfl, K, by omega, ?_⟩
  walk_at "s"
  refine t_mulL (.inl rfl) ⟨by omega, by omega, Nat.le_trans (by simp; omega : _ ≤ 1000) (by decide)⟩ ?_
  rw [show (List.replicate (n : Int).toNat [VV.non]).flatten = (prL n os ((cel os).take 0)).map ov by
    unfold prL
    simp [ov, Function.comp_def, List.map_const']]
  walk_at "s"
  have cA : Chg h (h ++ [VO.lst ((prL n os ((cel os).take 0)).map ov)]) (fun _ => False) := Chg.app
  have K1 := K.chg cA fun _ z => z.elim
  have G1 := G.chg cA id fun _ _ => id
  have hP1 := cA.get hP id
  have gA : (h ++ [VO.lst ((prL n os ((cel os).take 0)).map ov)])[h.length]? = some (.lst ((prL n os ((cel os).take 0)).map ov)) := snoc_get
  have lp : p + 2 + n * n < h.length := by obtain ⟨ks, vs, e1, _⟩ := K.dct; exact (List.getElem?_eq_some_iff.mp e1).1
  have lP := (List.getElem?_eq_some_iff.mp hP).1
  have lD := (List.getElem?_eq_some_iff.mp G.dct).1
  have lg : ∀ c, c < n * n → gl + c < h.length := fun c hc => (List.getElem?_eq_some_iff.mp (G.cel c hc)).1
  have nn : 0 < n * n := Nat.mul_pos n0 n0
  have lgx : gl + n * n ≤ h.length := by have := lg (n * n - 1) (by omega); omega
  generalize h ++ [VO.lst ((prL n os ((cel os).take 0)).map ov)] = h1 at cA K1 G1 hP1 gA ⊢
  have a5 : ∀ c, c < n * n → h.length ≠ gl + c := fun c hc => by have := lg c hc; omega
  generalize hh5 : h.length = k5 at gA lp lP lD lg lgx a5 ⊢
  refine t_kmeth K1.ins ?_
  walk_at "s"
  refine ⟨p, n, 200, _, b, st, rfl, K1, n2, n6, sl, fun h2 t0 K2 F2 l2 g2 => ?_⟩
  rw [hos] at K2 g2
  have c2 := Fr.chg F2
  have l5 : k5 < h1.length := (List.getElem?_eq_some_iff.mp gA).1
  have G2 := G1.chg c2 (by omega) fun q hq => by omega
  have hP2 := c2.get hP1 (by omega)
  have gA2 := c2.get gA (by omega)
  refine t_ks (seq_lst g2) ?_
  unfold pcs goTold
  rw [List.map_map]
  refine for_ls (fun k ρ h' => ∃ x6 x7 x8 x9 x10, ρ = [some (.ref p), some (.int n), some (.ref P), some (.ref D), some (tv (cnts n st)), some (.ref k5), x6, x7, x8, x9, x10] ∧ Chg h2 h' (fun x => x = k5 ∨ (gl ≤ x ∧ x < gl + n * n)) ∧ h'[k5]? = some (.lst ((prL n os ((cel os).take k)).map ov)) ∧ G53 h' D gl n (midG n ((cel os).take k) st gn))
    (fun k ρ h' ⟨_, _, _, _, _, _, c, _, _⟩ => by
      have := c.get g2 (by rintro (z | z) <;> omega)
      unfold pcs goTold at this
      rw [List.map_map] at this
      exact this) ⟨_, _, _, _, _, rfl, Chg.rfl, gA2, by
      have e : midG n ((cel os).take 0) st gn = gn := by funext c; simp [midG]
      rw [e]; exact G2⟩ (fun k y ρ h' hy hI => ?_) (fun ρ h' hI => ?_)
  · obtain ⟨x6, x7, x8, x9, x10, rfl, c, g5, G⟩ := hI
    rw [List.getElem?_map] at hy
    obtain ⟨⟨i, j⟩, hij, rfl⟩ := Option.map_eq_some_iff.mp hy
    obtain ⟨i1, j0, j1, eo⟩ := cel_pair Pr (List.mem_of_getElem? hij)
    obtain ⟨j, rfl⟩ := Int.eq_ofNat_of_zero_le j0
    have j1 : j < n := by omega
    have hc : i * n + j < n * n := by
      have := Nat.mul_le_mul_right n (show i + 1 ≤ n by exact i1)
      rw [Nat.add_mul, Nat.one_mul] at this
      omega
    have ne : st (i * n + j) ≠ [] := fun z => by
      have := W i j i1 j1 eo
      rw [cnts_at i1 j1, z] at this
      exact this rfl
    obtain ⟨kk, τ, e1, e2, e3⟩ := S.head n0 hc ne
    have tb := pt _ (List.mem_of_getElem? e2)
    have kl := (List.getElem?_eq_some_iff.mp e2).1
    have eg : (VL.pv ∘ goT n b st) (i, (j : Int)) = .tup [.int kk, .int (b - ((st (i * n + j)).headD (0, 0)).2)] := by
      show VL.pv (goT n b st (i, (j : Int))) = _
      unfold goT
      dsimp only
      rw [Int.toNat_natCast]
      unfold VL.pv
      dsimp only
      rw [e1]
    rw [eg]
    have hP3 := c.get hP2 (by omega)
    have ep : pcV n (i * n + j, τ) = .tup [.int (i : Int), .int (j : Int), .int τ] := by
      unfold pcV
      dsimp only
      rw [flat_div j1, flat_mod j1]
    have eat := at_get (F := pcV n) e2
    rw [ep] at eat
    have i1 : i < n := i1
    have tb0 : 0 ≤ τ := tb.1
    have tb1 : τ ≤ 300 := tb.2
    have hr : ((cel os).map Prod.fst)[k]? = some i := by rw [List.getElem?_map, hij]; rfl
    have ntk : i ∉ ((cel os).take k).map Prod.fst := fun hm => by
      rw [List.map_take] at hm
      obtain ⟨m, hm⟩ := List.mem_iff_getElem?.mp hm
      have l1 := (List.getElem?_eq_some_iff.mp hm).1
      rw [List.length_take] at l1
      rw [List.getElem?_take_of_lt (by omega)] at hm
      have l2 := (List.getElem?_eq_some_iff.mp hm)
      have l3 := (List.getElem?_eq_some_iff.mp hr)
      have := (List.getElem_inj cel_rows).mp (l2.2.trans l3.2.symm)
      omega
    have etk : (cel os).take (k + 1) = (cel os).take k ++ [(i, (j : Int))] := by rw [List.take_add_one, hij]; rfl
    have ao : atI ((prL n os ((cel os).take k)).map ov) (i : Int) = some .non := by
      have : (prL n os ((cel os).take k))[i]? = some none := by
        unfold prL
        rw [List.getElem?_map, List.getElem?_range i1, Option.map_some, if_neg ntk]
      exact at_get (F := ov) this
    walk_at "s"
    refine t_ix (fun _ hh => by cases hh) (seq_lst hP3) eat ?_
    walk_at "s"
    refine t_seq ?_
    walk_at "s"
    rw [decide_eq_false (by omega)]
    walk_at "s"
    refine t_ix (fun _ hh => by cases hh) (seq_lst g5) ao ?_
    walk_at "s"
    rw [show VL.isNon (R.val VV.non) = true from rfl]
    walk_at "s"
    have lpr : (prL n os ((cel os).take k)).length = n := by simp [prL]
    refine t_kset (k := i) g5 (by unfold ixN; rw [List.length_map, lpr]; simp [i1]) ?_
    walk_at "s"
    have gc := G.cel _ hc
    have l5' : k5 < h'.length := (List.getElem?_eq_some_iff.mp g5).1
    have a5c := a5 _ hc
    have gd' : (h'.set k5 (VO.lst ((((prL n os ((cel os).take k)).map ov).set i (VV.int j)))))[D]? = some (.dtu ((List.range (n * n)).map (cKey n)) ((List.range (n * n)).map fun c => .ref (gl + c))) := by
      rw [List.getElem?_set_ne (by omega)]; exact G.dct
    refine t_kdg (w := .ref (gl + (i * n + j))) gd' (show some (vG ((List.range (n * n)).map (cKey n)) ((List.range (n * n)).map fun c => VV.ref (gl + c)) (My.K2 (i : Int) (j : Int))) = some (some _) by rw [g_key2 i1 j1]) ?_
    have gc' : (h'.set k5 (VO.lst ((((prL n os ((cel os).take k)).map ov).set i (VV.int j)))))[gl + (i * n + j)]? = some (.lst ((gn (i * n + j)).map .int)) := by
      rw [List.getElem?_set_ne (by omega), gc]
      unfold midG
      rw [flat_div j1, flat_mod j1, if_neg (fun z => ntk (List.mem_map.mpr ⟨_, z, rfl⟩))]
    refine t_kapp gc' ?_
    walk_at "s"
    refine t_kapp2 gc' (Nat.lt_of_le_of_lt (by rw [List.length_map]; exact gnl _ hc) (by decide : 200 < sizeLine)) ?_
    have es : ((prL n os ((cel os).take k)).map ov).set i (VV.int j) = (prL n os ((cel os).take (k + 1))).map ov := by
      rw [show VV.int (j : Int) = ov (some (j : Int)) from rfl, ← List.map_set]
      congr 1
      apply List.ext_getElem?
      intro m
      rw [etk]
      unfold prL
      rw [List.getElem?_set, List.length_map, List.length_range, List.getElem?_map, List.getElem?_map]
      by_cases hm : m < n
      · rw [List.getElem?_range hm, Option.map_some, Option.map_some]
        by_cases z : i = m
        · subst z
          rw [if_pos rfl, if_pos i1, if_pos (by simp)]
          rw [show os.getD i none = some (j : Int) from eo]
        · rw [if_neg z]
          have : (m ∈ ((cel os).take k ++ [(i, (j : Int))]).map Prod.fst) ↔ m ∈ ((cel os).take k).map Prod.fst := by
            rw [List.map_append, List.mem_append]
            refine or_iff_left fun w => ?_
            exact z (List.mem_singleton.mp w).symm
          simp only [this]
      · rw [List.getElem?_eq_none (by simpa using hm)]
        rw [if_neg (by omega)]; rfl
    have eG : ∀ c, midG n ((cel os).take (k + 1)) st gn c = if c = i * n + j then gn (i * n + j) ++ [(kk : Int)] else midG n ((cel os).take k) st gn c := fun c => by
      rw [etk]
      unfold midG
      by_cases z : c = i * n + j
      · subst z
        rw [if_pos rfl, flat_div j1, flat_mod j1, if_pos (by simp), e1]
      · rw [if_neg z]
        have : ((c / n, ((c % n : Nat) : Int)) ∈ (cel os).take k ++ [(i, (j : Int))]) ↔ ((c / n, ((c % n : Nat) : Int)) ∈ (cel os).take k) := by
          rw [List.mem_append]
          refine ⟨fun w => w.elim id fun w => ?_, .inl⟩
          have w := List.mem_singleton.mp w
          have w1 := (Prod.mk.inj w).1
          have w2 := Int.ofNat.inj (Prod.mk.inj w).2
          exact absurd (by rw [← w1, ← w2, Nat.mul_comm]; exact (Nat.div_add_mod c n).symm) z
        simp only [this]
    refine ⟨_, _, .inl ⟨rfl, rfl⟩, _, _, _, _, _, rfl, ?_, ?_, ?_⟩
    · refine (c.tr (Chg.set (.inl rfl)) fun _ _ z => z).tr (Chg.set ?_) fun _ _ z => z
      exact .inr ⟨by omega, by omega⟩
    · rw [es, List.getElem?_set_ne (by omega), List.getElem?_set_self l5']
    · refine ⟨by rw [List.getElem?_set_ne (by have := a4; have := a5; omega), List.getElem?_set_ne (by omega)]; exact G.dct, fun q hq => ?_⟩
      have a5q := a5 _ hq
      rw [eG]
      by_cases z : q = i * n + j
      · subst z
        rw [if_pos rfl, List.getElem?_set_self (by rw [List.length_set]; exact (List.getElem?_eq_some_iff.mp gc).1), List.map_append]; rfl
      · rw [if_neg z, List.getElem?_set_ne (by omega), List.getElem?_set_ne (by omega)]
        exact G.cel q hq
  · obtain ⟨x6, x7, x8, x9, x10, rfl, c, g5, G⟩ := hI
    rw [List.length_map] at g5 G
    rw [List.take_of_length_le (Nat.le_refl _)] at g5 G
    rw [prL_all Pr.len] at g5
    walk_at "s"
    refine t_tuple (seq_lst g5) rfl ?_
    walk_at "s"
    refine ⟨n, _, cnts n st, .tup (os.map ov), rfl, T, tyt_ov os, fun xs e => by cases e; rw [List.length_map, Pr.len]; omega, fun h3 C3 => ?_⟩
    rw [(fullB_iff n2 n6 Pr).mpr ⟨W, Fu⟩]
    walk_at "s"
    rw [decide_eq_true rfl]
    have K3 := (K2.chg c (by rintro x (rfl | z) <;> omega)).chg C3 fun _ z => z.elim
    have G3 := G.chg C3 id fun _ _ => id
    refine finK (q h3 K3 Sb G3 ?_)
    have W0 : ∀ {A B : Nat → Prop} {x y : VH}, Chg x y A → (∀ a, a < x.length → A a → B a) → Chg x y B := fun c s => c.mono s
    have lh1 : h1.length ≤ h2.length := c2.len
    have cc : Chg h1 h2 (fun x => (p ≤ x ∧ x < p + 3 + n * n) ∨ (gl ≤ x ∧ x < gl + n * n)) := c2.mono fun a _ z => .inl z
    have cd : Chg h h1 (fun x => (p ≤ x ∧ x < p + 3 + n * n) ∨ (gl ≤ x ∧ x < gl + n * n)) := cA.mono fun a _ z => z.elim
    refine (((cd.tr cc fun a ha z => z).tr c fun a ha z => ?_).tr C3 fun _ _ z => z.elim)
    rcases z with rfl | z
    · omega
    · exact .inr z

def sCount : GC := fun as h Q => ∃ (n : Nat) (m : Int) (rows : List (List Int)) (i j : Nat), as = [tv rows, .int i, .int j] ∧ Tab n m rows ∧ i < n ∧ j < n ∧ Q (.val (.int (aij rows i j))) h
theorem k_count (x0 x1 x2 : VV) (h : VH) (QV : R → VH → Prop) (hs : sCount [x0, x1, x2] h QV) : bd_count_at sAmong { nx := fun _ h' => fin h.length QV (.val .non) h', rt := fin h.length QV } [some x0, some x1, some x2] h := by
  obtain ⟨n, m, rows, i, j, e, T, hi, hj, k⟩ := hs
  cases e
  have am : ∀ z : Nat, z < n → amB (n : Int) (.int (z : Int)) = true := fun z hz => by simp [amB]; omega
  have g1 := tab_ix T hi
  have g2 := row_ix T hi (j := (j : Int)) (by omega) (by omega)
  rw [Int.toNat_natCast] at g2
  unfold bd_count_at
  refine t_seq ?_
  walk_at "s"
  rw [List.length_map, T.len]
  refine ⟨n, _, rfl, ⟨_, rfl⟩, ?_⟩
  rw [am i hi]
  walk_at "s"
  rw [List.length_map, T.len]
  refine ⟨n, _, rfl, ⟨_, rfl⟩, ?_⟩
  rw [am j hj]
  walk_at "s"
  exact finK k
def sLs : GC := fun as h Q => ∃ (n : Nat) (m : Int) (rows : List (List Int)) (a : Int) (i : Nat), as = [tv rows, .tup [.int a, .int i]] ∧ Tab n m rows ∧ i < n ∧ Q (.val (.int (if a = 0 then RS n rows i else CS n rows i))) h
theorem k_ls (x0 x1 : VV) (h : VH) (QV : R → VH → Prop) (hs : sLs [x0, x1] h QV) : bd_line_sum { nx := fun _ h' => fin h.length QV (.val .non) h', rt := fin h.length QV } [some x0, some x1, none, none, none] h := by
  obtain ⟨n, m, rows, a, i, e, T, hi, q⟩ := hs
  cases e
  have n2 := T.lo
  have n6 := T.hi
  have g1 := tab_ix T hi
  unfold bd_line_sum
  walk_at "s"
  refine t_seq ?_
  walk_at "s"
  refine t_ite (fun _ => ?_) (fun c => absurd (by omega) c)
  walk_at "s"
  rw [decide_eq_true (show (i : Int) < ((rows.map fun x => VV.tup (x.map VV.int)).length : Int) by rw [List.length_map, T.len]; omega)]
  walk_at "s"
  refine t_seq ?_
  walk_at "s"
  refine t_ite (fun ha => ?_) (fun ha => ?_)
  · walk_at "s"
    rw [if_pos ha, RS_eq T hi] at q
    exact finK q
  · walk_at "s"
    rw [if_neg ha, CS_eq T i] at q
    refine lc_mp (fun l : List Int => VV.tup (l.map .int)) rows (fun l => .int (l.getD i 0)) rfl (by rw [T.len]; omega) trivial (fun l hl => ?_) ?_
    · obtain ⟨c, _, c1, c2⟩ := VL.atI_map (l := l) (f := VV.int) (i := (i : Int)) (by omega) (by rw [T.row _ hl]; omega)
      rw [Int.toNat_natCast] at c1
      walk_at "s"
      exact ⟨by rw [List.getD_eq_getElem?_getD, c1]; rfl, by trivial⟩
    · rw [show (rows.map fun l => VV.int (l.getD i 0)) = (rows.map fun l => l.getD i 0).map VV.int by rw [List.map_map]; rfl]
      walk_at "s"
      exact finK q
def sLat : GC := fun as h Q => ∃ (n : Nat) (m : Int) (rows : List (List Int)) (i j : Nat), as = [tv rows, .int i, .int j] ∧ Tab n m rows ∧ i < n ∧ j < n ∧ Q (.val (.int (lat n rows i j))) h
theorem k_latest (x0 x1 x2 : VV) (h : VH) (QV : R → VH → Prop) (hs : sLat [x0, x1, x2] h QV) : bd_latest sCount sLs { nx := fun _ h' => fin h.length QV (.val .non) h', rt := fin h.length QV } [some x0, some x1, some x2, none] h := by
  obtain ⟨n, m, rows, i, j, e, T, hi, hj, k⟩ := hs
  cases e
  unfold bd_latest
  walk_at "s"
  refine ⟨n, m, rows, i, j, rfl, T, hi, hj, ?_⟩
  walk_at "s"
  refine t_seq ?_
  walk_at "s"
  unfold lat at k
  refine t_ite (fun hz => ?_) (fun hz => ?_)
  · walk_at "s"
    rw [if_pos hz] at k
    exact finK k
  · walk_at "s"
    rw [if_neg hz] at k
    refine ⟨n, m, rows, 0, i, rfl, T, hi, ?_⟩
    walk_at "s"
    refine ⟨n, m, rows, 1, j, rfl, T, hj, ?_⟩
    rw [if_neg (show ¬ (1 : Int) = 0 by decide)]
    simp only [if_true]
    walk_at "s"
    exact finK k

theorem pKs_new {κ : Type} [DecidableEq κ] {ks : List κ} {k : κ} (h : k ∉ ks) : pKs ks k = ks ++ [k] := by unfold pKs; rw [if_neg h]
theorem pVs_new {κ : Type} [DecidableEq κ] {ks : List κ} {vs : List VV} {k : κ} {v : VV} (h : k ∉ ks) : pVs ks vs k v = vs ++ [v] := by unfold pVs; rw [if_neg h]
theorem mrgT_new : ∀ (ps : List (List Key × VV)) (ks : List (List Key)) (vs : List VV), (ks ++ ps.map Prod.fst).Nodup → mrgT ps ks vs = (ks ++ ps.map Prod.fst, vs ++ ps.map Prod.snd)
  | [], ks, vs, _ => by simp [mrgT]
  | p :: ps, ks, vs, h => by
    have hn : p.1 ∉ ks := fun z => by
      rw [List.map_cons] at h
      exact (List.nodup_append.mp h).2.2 _ z _ (by simp) rfl
    rw [mrgT, pKs_new hn, pVs_new hn, mrgT_new ps _ _ (by rw [List.append_assoc]; exact h)]
    simp
theorem nodup_keys {n m : Nat} : ((List.range m).map (cKey n)).Nodup := by
  refine List.pairwise_map.mpr (List.Pairwise.imp (fun {a b} hab e => hab (key_inj e)) List.nodup_range)
def tt (n : Nat) (st : Nat → List (Int × Int)) : Int := ((List.range n).map fun i => (cntR n st i).sum).sum
structure J53 (C : Addr) (h : VH) (n : Nat) (b : Int) (st : Nat → List (Int × Int)) (pc : List (Nat × Int)) (gn : Nat → List Int) (mx d : Nat) : Prop where
  n2 : 2 ≤ n
  n6 : n ≤ 6
  K : Kp C h 2 n (pc.length : Nat) b st
  S : S53 n b st pc gn
  P : h[n * n + 5]? = some (.lst (pc.map (pcV n)))
  G : G53 h (n * n + 6 + n * n) (n * n + 6) n gn
  D : Dw h (d : Nat)
  l : pc.length ≤ mx
  t : ∀ p ∈ pc, 0 ≤ p.2 ∧ p.2 ≤ 300
theorem J53.sl {C : Addr} {h : VH} {n : Nat} {b : Int} {st : Nat → List (Int × Int)} {pc : List (Nat × Int)} {gn : Nat → List Int} {mx d : Nat} (J : J53 C h n b st pc gn mx d) (l : mx ≤ 200) : ∀ c, c < n * n → (st c).length ≤ 200 := fun c hc => by have := J.S.len hc; have := J.l; omega
theorem J53.up {C : Addr} {h : VH} {n : Nat} {b : Int} {st : Nat → List (Int × Int)} {pc : List (Nat × Int)} {gn : Nat → List Int} {mx d mx' d' : Nat} (J : J53 C h n b st pc gn mx d) (l : mx ≤ mx') (l2 : d ≤ d') : J53 C h n b st pc gn mx' d' :=
  ⟨J.n2, J.n6, J.K, J.S, J.P, J.G, J.D.mono (by omega), by have := J.l; omega, J.t⟩
theorem J53.len {C : Addr} {h : VH} {n : Nat} {b : Int} {st : Nat → List (Int × Int)} {pc : List (Nat × Int)} {gn : Nat → List Int} {mx d : Nat} (J : J53 C h n b st pc gn mx d) : n * n + 6 + n * n < h.length := (List.getElem?_eq_some_iff.mp J.G.dct).1
theorem J53.draw {C : Addr} {h h' : VH} {n : Nat} {b : Int} {st : Nat → List (Int × Int)} {pc : List (Nat × Int)} {gn : Nat → List Int} {mx d : Nat} (J : J53 C h n b st pc gn mx d) (D : Dw h' ((d : Nat) + 1)) (c : Chg h h' (fun x => x = 1)) : J53 C h' n b st pc gn mx (d + 1) :=
  ⟨J.n2, J.n6, J.K.chg c (by rintro x rfl; left; omega), J.S, c.get J.P (by omega), J.G.chg c (by omega) (fun q _ => by omega), by rw [Int.natCast_add]; exact D, J.l, J.t⟩
/-- a piece comes -/
theorem J53.come {C : Addr} {h h1 h' : VH} {n : Nat} {b : Int} {st : Nat → List (Int × Int)} {pc : List (Nat × Int)} {gn : Nat → List Int} {mx d i j : Nat} (J : J53 C h n b st pc gn mx d) (l : mx ≤ 200) (hi : i < n) (hj : j < n)
    (e : h1 = h.set (n * n + 5) (.lst (pc.map (pcV n) ++ [.tup [.int (i : Int), .int (j : Int), .int (((st (i * n + j)).length : Int) + 1)]])))
    (K : Kp C h' 2 n ((pc.length : Int) + 1) b (upS st (i * n + j) (st (i * n + j) ++ [(((pc.length : Nat) : Int), b)]))) (F : Fr h1 h' 2 (2 + 3 + n * n)) :
    J53 C h' n b (upS st (i * n + j) (st (i * n + j) ++ [(((pc.length : Nat) : Int), b)])) (pc ++ [(i * n + j, ((st (i * n + j)).length : Int) + 1)]) gn (mx + 1) d := by
  have hc := flat_lt hi hj
  have n0 : 0 < n := by omega
  have hl := J.len
  have c1 : Chg h h1 (fun x => x = n * n + 5) := by rw [e]; exact Chg.set rfl
  have c2 := Fr.chg F
  have cc : Chg h h' (fun x => 2 ≤ x ∧ x < n * n + 6) := (c1.mono fun a _ (z : a = n * n + 5) => ⟨by omega, by omega⟩).tr c2 fun a _ z => ⟨z.1, by omega⟩
  refine ⟨J.n2, J.n6, by rw [List.length_append, List.length_singleton, Int.natCast_add]; exact K, J.S.come n0 hc, ?_, J.G.chg cc (by omega) (fun q hq => by omega), J.D.chg cc (by omega) (by omega), by rw [List.length_append]; have := J.l; simp; omega, fun p hp => ?_⟩
  · have g1 : h1[n * n + 5]? = some (.lst ((pc ++ [(i * n + j, ((st (i * n + j)).length : Int) + 1)]).map (pcV n))) := by
      rw [e, List.getElem?_set_self (by omega), List.map_append]
      unfold pcV
      rw [List.map_singleton]
      dsimp only
      rw [flat_div hj, flat_mod hj]
    exact c2.get g1 (by omega)
  · rcases List.mem_append.mp hp with hp | hp
    · exact J.t p hp
    · rw [List.mem_singleton.mp hp]
      have := J.sl l _ hc
      exact ⟨by dsimp only; omega, by dsimp only; omega⟩
/-- a beat -/
theorem J53.beat {C : Addr} {h h' : VH} {n : Nat} {b : Int} {st : Nat → List (Int × Int)} {pc : List (Nat × Int)} {gn : Nat → List Int} {mx d : Nat} (J : J53 C h n b st pc gn mx d)
    (K : Kp C h' 2 n (pc.length : Nat) (b + 1) (goSt n (waveF n (cnts n st) b) st)) (S : S53 n (b + 1) (goSt n (waveF n (cnts n st) b) st) pc (midG n (cel (waveF n (cnts n st) b)) st gn)) (G : G53 h' (n * n + 6 + n * n) (n * n + 6) n (midG n (cel (waveF n (cnts n st) b)) st gn))
    (c : Chg h h' (fun x => (2 ≤ x ∧ x < 2 + 3 + n * n) ∨ (n * n + 6 ≤ x ∧ x < n * n + 6 + n * n))) : J53 C h' n (b + 1) (goSt n (waveF n (cnts n st) b) st) pc (midG n (cel (waveF n (cnts n st) b)) st gn) mx d :=
  ⟨J.n2, J.n6, K, S, c.get J.P (by omega), G, J.D.chg c (by omega) (by omega), J.l, J.t⟩

theorem sum_nat_int : ∀ l : List Nat, ((l.sum : Nat) : Int) = (l.map fun x : Nat => (x : Int)).sum
  | [] => rfl
  | x :: l => by rw [List.sum_cons, List.map_cons, List.sum_cons, Int.natCast_add, sum_nat_int l]
theorem tt_tot {n : Nat} {st : Nat → List (Int × Int)} : tt n st = (tot n (cnts n st) : Nat) := by
  unfold tt tot
  rw [sum_nat_int, List.map_map]
  congr 1
  refine List.map_congr_left fun i hi => ?_
  show (cntR n st i).sum = ((List.sum _ : Nat) : Int)
  rw [sum_nat_int, List.map_map]
  congr 1
  unfold cntR
  refine List.map_congr_left fun j hj => ?_
  show _ = (((aij (cnts n st) i j).toNat : Nat) : Int)
  rw [cnts_at (List.mem_range.mp hi) (List.mem_range.mp hj)]
  simp
theorem sum_zero {α : Type} : ∀ l : List α, (l.map fun _ => (0 : Int)).sum = 0
  | [] => rfl
  | x :: l => by rw [List.map_cons, List.sum_cons, sum_zero l]; rfl
theorem tt_zero {n : Nat} {st : Nat → List (Int × Int)} (h : ∀ c, c < n * n → st c = []) : tt n st = 0 := by
  unfold tt
  rw [show (List.range n).map (fun i => (cntR n st i).sum) = (List.range n).map fun _ => (0 : Int) from List.map_congr_left fun i hi => ?_]
  · exact sum_zero _
  · unfold cntR
    have hi := List.mem_range.mp hi
    rw [show (List.range n).map (fun j => ((st (i * n + j)).length : Int)) = (List.range n).map fun _ => (0 : Int) from List.map_congr_left fun j hj => by rw [h _ (flat_lt hi (List.mem_range.mp hj))]; rfl]
    exact sum_zero _
theorem wis_of {n : Nat} {st : Nat → List (Int × Int)} (h : 0 < tt n st) : wis n (cnts n st) ≠ [] := fun e => by
  rw [tt_zero fun c hc => ?_] at h
  · omega
  · obtain ⟨c1, c2, c3⟩ := cell_lt hc
    cases q : st c with
    | nil => rfl
    | cons x l =>
      exfalso
      have : (c / n, c % n) ∈ wis n (cnts n st) := mem_wis.mpr ⟨c1, c2, by rw [cnts_at c1 c2, c3, q]; simp; omega⟩
      rw [e] at this
      cases this
/-- a beat takes one at least -/
theorem tt_less {n : Nat} {b : Int} {st : Nat → List (Int × Int)} (n2 : 2 ≤ n) (n6 : n ≤ 6) (sl : ∀ c, c < n * n → (st c).length ≤ 200) (h : 0 < tt n st) : tt n (goSt n (waveF n (cnts n st) b) st) < tt n st := by
  have n0 : 0 < n := by omega
  have w := wv_ok (rows := cnts n st) (b := b) n0 (n * n)
  have := tot_less (tab_cnts n2 n6 sl) (wave_pair n0) w.wi (wave_some (b := b) n0 (wis_of h))
  rw [tt_tot, tt_tot, cnts_go w.wi]
  exact_mod_cast this
theorem lat_beat {n : Nat} {b far : Int} {st : Nat → List (Int × Int)} {i : Nat} (n2 : 2 ≤ n) (n6 : n ≤ 6) (sl : ∀ c, c < n * n → (st c).length ≤ 200) (L : ∀ a c, a < n → c < n → aij (cnts n st) a c ≠ 0 → lat n (cnts n st) a c + (i : Nat) ≤ far) :
    ∀ a c, a < n → c < n → aij (cnts n (goSt n (waveF n (cnts n st) b) st)) a c ≠ 0 → lat n (cnts n (goSt n (waveF n (cnts n st) b) st)) a c + ((i + 1 : Nat) : Nat) ≤ far := fun a c ha hc h => by
  have n0 : 0 < n := by omega
  have W : WithinP n (cnts n st) (waveF n (cnts n st) b) := (wv_ok (rows := cnts n st) (b := b) n0 (n * n)).wi
  rw [cnts_go W] at h ⊢
  have s := lat_step (tab_cnts n2 n6 sl) (wave_pair n0) W (wv_full n0) ha hc h
  have p1 := lat_pos (tab_less (tab_cnts n2 n6 sl) W) ha hc h
  have h1 : aij (cnts n st) a c ≠ 0 := lat_ne (n := n) (by omega)
  have := L a c ha hc h1
  omega
theorem lat_done {n : Nat} {far : Int} {st : Nat → List (Int × Int)} (n2 : 2 ≤ n) (n6 : n ≤ 6) (sl : ∀ c, c < n * n → (st c).length ≤ 200) (f0 : 0 ≤ far) (L : ∀ a c, a < n → c < n → aij (cnts n st) a c ≠ 0 → lat n (cnts n st) a c + (far.toNat : Nat) ≤ far) : ∀ c, c < n * n → st c = [] := fun c hc => by
  obtain ⟨c1, c2, c3⟩ := cell_lt hc
  cases q : st c with
  | nil => rfl
  | cons x l =>
    exfalso
    have h : aij (cnts n st) (c / n) (c % n) ≠ 0 := by rw [cnts_at c1 c2, c3, q]; simp; omega
    have h1 := lat_pos (tab_cnts n2 n6 sl) c1 c2 h
    have h2 := L _ _ c1 c2 h
    omega
theorem lat_cap {n : Nat} {m : Int} {rows : List (List Int)} (T : Tab n m rows) {i j : Nat} (hi : i < n) (hj : j < n) (m0 : 0 ≤ m) : lat n rows i j ≤ n * m + n * m := by
  have a := RS_cap T hi
  have b := CS_cap T hj
  have c := (mem_getD2 T hi hj).1
  have d : 0 ≤ (n : Int) * m := Int.mul_nonneg (by omega) m0
  unfold lat
  split <;> omega

set_option maxHeartbeats 4000000 in
theorem k_law {C : Addr} (x0 : VV) (h : VH) (QV : R → VH → Prop) (hs : sLaw [x0] h QV) : bd_law C sDraw (sKInit C) (sWait C) (sCome C) (sTaken53 C) (sKTab C) sLat { nx := fun _ h' => fin h.length QV (.val .non) h', rt := fin h.length QV } [some x0, none, none, none, none, none, none, none, none, none, none, none, none, none, none, none] h := by
  obtain ⟨ns0, e, rfl, hl0, kq⟩ := hs
  cases e
  unfold bd_law
  refine t_seqM (fun ρ' h' => ∃ (ns : List Int), ρ' = [some (.rol (ns0.map .int)), some (.ref 1), none, none, none, none, none, none, none, none, none, none, none, none, none, none] ∧ h' = TH ns ⟨0, 0, 0⟩ []) ?_ ?_
  · walk_at "s"
    rw [cut_to _ _ (by decide)]
    walk_at "s"
    exact ⟨_, rfl, rfl⟩
  rintro ρ' h' ⟨ns, rfl, rfl⟩
  walk_at "s"
  refine ⟨ns, _, [], 5, 0, rfl, rfl, by decide, by decide, ⟨by decide, by decide⟩, by decide, fun w s1 w0 w1 ok1 => ?_⟩
  obtain ⟨n, hn⟩ : ∃ n : Nat, 2 + w = (n : Int) := ⟨(2 + w).toNat, by omega⟩
  have n2 : 2 ≤ n := by omega
  have n6 : n ≤ 6 := by omega
  have nn : n * n ≤ 36 := Nat.mul_le_mul n6 n6
  walk_at "s"
  simp only [hn]
  refine ⟨rfl, TH ns s1 [], n, rfl, rfl, by omega, by omega, fun h1 K1 F1 l1 => ?_⟩
  have D1 : Dw h1 (1 : Nat) := Dw.chg (A := fun x => 2 ≤ x ∧ x < 2 + 3 + n * n) ⟨ns, s1, [], rfl, ok1⟩ (Fr.chg F1) (by omega) (by omega)
  have K1 : Kp C h1 2 n 0 0 (fun _ => []) := K1
  have l1 : h1.length = n * n + 5 := by rw [l1]; show 2 + 3 + n * n = _; omega
  clear F1
  refine ⟨rfl, ?_⟩
  rw [show (TH ns s1 []).length = 2 from rfl]
  walk_at "s"
  rw [l1]
  refine lc_go (fun i acc h' => acc = (List.range i).map (fun c : Nat => VV.tup [.tup [.int ((c / n : Nat) : Int), .int ((c % n : Nat) : Int)], .ref (n * n + 6 + c)]) ∧ h' = (h1 ++ [VO.lst []]) ++ List.replicate i (VO.lst [])) _ 0 [] _ (fun _ _ _ _ => trivial) (by rw [List.length_nil, rng_len]; omega) ⟨rfl, by simp⟩ (fun i x acc h' hx hI => ?_) (fun acc h' hI => ?_) mono_gtN
  · rw [Nat.zero_add] at hI ⊢
    obtain ⟨hi, rfl⟩ := rng_get0 hx
    obtain ⟨rfl, rfl⟩ := hI
    refine t_gtN ?_
    walk_at "s"
    refine ⟨_, .inl rfl, ?_, ?_⟩
    · rw [List.range_succ, List.map_append, List.map_singleton, Int.natCast_ediv, Int.natCast_emod]
      rw [show (h1 ++ [VO.lst []] ++ List.replicate i (VO.lst [])).length = n * n + 6 + i by simp [l1]; omega]
    · rw [List.replicate_succ', ← List.append_assoc]
  rw [Nat.zero_add, rng_len] at hI
  have en : ((n : Int) * (n : Int)).toNat = n * n := by rw [← Int.natCast_mul, Int.toNat_natCast]
  rw [en] at hI
  obtain ⟨rfl, rfl⟩ := hI
  refine t_dictPT (ps := (List.range (n * n)).map fun c => (cKey n c, VV.ref (n * n + 6 + c))) (by rw [List.map_map]; rfl) ?_
  rw [mrgT_new _ _ _ (by rw [List.map_map]; exact nodup_keys)]
  walk_at "s"
  have l2 : (h1 ++ [VO.lst []] ++ List.replicate (n * n) (VO.lst [])).length = n * n + 6 + n * n := by simp [l1]; omega
  rw [l2, List.nil_append, List.nil_append]
  have J0 : J53 C (h1 ++ [VO.lst []] ++ List.replicate (n * n) (VO.lst []) ++ [VO.dtu (((List.range (n * n)).map fun c => (cKey n c, VV.ref (n * n + 6 + c))).map Prod.fst) (((List.range (n * n)).map fun c => (cKey n c, VV.ref (n * n + 6 + c))).map Prod.snd)]) n 0 (fun _ => []) [] (fun _ => []) 0 1 := by
    have c : Chg h1 (h1 ++ [VO.lst []] ++ List.replicate (n * n) (VO.lst []) ++ [VO.dtu (((List.range (n * n)).map fun c => (cKey n c, VV.ref (n * n + 6 + c))).map Prod.fst) (((List.range (n * n)).map fun c => (cKey n c, VV.ref (n * n + 6 + c))).map Prod.snd)]) (fun _ => False) := by
      rw [List.append_assoc, List.append_assoc]; exact Chg.app
    refine ⟨n2, n6, K1.chg c (fun _ z => z.elim), S53.new, ?_, ⟨?_, fun q hq => ?_⟩, D1.chg c id id, Nat.le_refl _, fun p hp => (by cases hp)⟩
    · rw [List.append_assoc, List.append_assoc, List.getElem?_append_right (by omega), l1, Nat.sub_self]; rfl
    · rw [List.getElem?_append_right (by omega), l2, Nat.sub_self, List.map_map, List.map_map]; rfl
    · rw [List.getElem?_append_left (by omega), List.getElem?_append_right (by simp [l1] <;> omega), List.getElem?_replicate]
      simp [l1]; try omega
  generalize h1 ++ [VO.lst []] ++ List.replicate (n * n) (VO.lst []) ++ [VO.dtu (((List.range (n * n)).map fun c => (cKey n c, VV.ref (n * n + 6 + c))).map Prod.fst) (((List.range (n * n)).map fun c => (cKey n c, VV.ref (n * n + 6 + c))).map Prod.snd)] = h2 at J0 ⊢
  clear K1 D1 l2
  refine t_draw J0.D (by omega) (by omega) (by omega) fun o1 h3 o10 o11 D3 c3 l3 => ?_
  have J3 := J0.draw D3 c3
  clear J0 D3 c3 l3
  walk_at "s"
  refine t_draw J3.D (by omega) (by omega) (by omega) fun o2 h4 o20 o21 D4 c4 l4 => ?_
  have J4 := J3.draw D4 c4
  clear J3 D4 c4 l4
  walk_at "s"
  refine t_draw J4.D (by omega) (by omega) (by omega) fun m h5 m0 m1 D5 c5 l5 => ?_
  have J5 := J4.draw D5 c5
  clear J4 D5 c5 l5
  walk_at "s"
  have EX : ∀ (x8 x9 x10 : Option VV), True := fun _ _ _ => trivial
  refine for_rng (fun i ρ h' => ∃ (b : Int) (st : Nat → List (Int × Int)) (pc : List (Nat × Int)) (gn : Nat → List Int) (x5 x8 x9 x10 : Option VV), ρ = [some (.rol (ns0.map .int)), some (.ref 1), some (.int n), some (.ref 2), some (.ref (n * n + 5)), x5, some (.ref (n * n + 6 + n * n)), some (.tup [.int o1, .int o2]), x8, x9, x10, none, none, none, none, none] ∧ J53 C h' n b st pc gn (5 * i) (10 + 20 * i))
    (1 + m).toNat (fun _ => trivial) ⟨0, _, [], _, _, _, _, _, rfl, J5.up (by omega) (by omega)⟩ (fun i ρ h hi hI => ?_) (fun ρ h hI => ?_)
  · obtain ⟨b, st, pc, gn, x5, x8, x9, x10, rfl, J⟩ := hI
    refine t_gtN ?_
    walk_at "s"
    refine t_draw J.D (by omega) (by omega) (by omega) fun mt h6 mt0 mt1 D6 c6 l6 => ?_
    have J6 := J.draw D6 c6
    clear J D6 c6 l6
    walk_at "s"
    refine for_rng (fun t ρ h' => ∃ (st : Nat → List (Int × Int)) (pc : List (Nat × Int)) (x8 x9 x10 : Option VV), ρ = [some (.rol (ns0.map .int)), some (.ref 1), some (.int n), some (.ref 2), some (.ref (n * n + 5)), some (.int (i : Int)), some (.ref (n * n + 6 + n * n)), some (.tup [.int o1, .int o2]), x8, x9, x10, none, none, none, none, none] ∧ J53 C h' n b st pc gn (5 * i + t) (11 + 20 * i + 3 * t))
      mt.toNat (fun _ => trivial) ⟨_, _, _, _, _, rfl, J6.up (by omega) (by omega)⟩ (fun t ρ h ht hI => ?_) (fun ρ h hI => ?_)
    · obtain ⟨st, pc, x8, x9, x10, rfl, J⟩ := hI
      refine t_gtN ?_
      walk_at "s"
      refine t_draw J.D (by omega) (by omega) (by omega) fun a1 h7 a10 a11 D7 c7 l7 => ?_
      have J7 := J.draw D7 c7
      clear J D7 c7 l7
      walk_at "s"
      refine t_draw J7.D (by omega) (by omega) (by omega) fun a2 h8 a20 a21 D8 c8 l8 => ?_
      have J8 := J7.draw D8 c8
      clear J7 D8 c8 l8
      walk_at "s"
      refine t_draw J8.D (by omega) (by omega) (by omega) fun v h9 v0 v1 D9 c9 l9 => ?_
      have J9 := J8.draw D9 c9
      clear J8 D9 c9 l9
      obtain ⟨pi, pj, eat, hpi, hpj⟩ : ∃ i j : Nat, atI [VV.tup [.int o1, .int o2], VV.tup [.int a1, .int a2]] v = some (.tup [.int (i : Int), .int (j : Int)]) ∧ i < n ∧ j < n := by
        have : v = 0 ∨ v = 1 := by omega
        rcases this with rfl | rfl
        · exact ⟨o1.toNat, o2.toNat, by rw [Int.toNat_of_nonneg o10, Int.toNat_of_nonneg o20]; rfl, by omega, by omega⟩
        · exact ⟨a1.toNat, a2.toNat, by rw [Int.toNat_of_nonneg a10, Int.toNat_of_nonneg a20]; rfl, by omega, by omega⟩
      refine t_ix (fun _ hh => by cases hh) rfl eat ?_
      walk_at "s"
      have hpc := flat_lt hpi hpj
      have sl := J9.sl (by omega)
      have pl := J9.l
      refine t_kapp J9.P ?_
      walk_at "s"
      refine t_kmeth J9.K.ins ?_
      walk_at "s"
      refine ⟨2, n, pi, pj, _, b, st, rfl, J9.K, hpi, hpj, Nat.le_trans (sl _ hpc) (by decide), ?_⟩
      walk_at "s"
      refine t_kapp2 J9.P (Nat.lt_of_le_of_lt (by rw [List.length_map]; exact (by omega : pc.length ≤ 200)) (by decide : 200 < sizeLine)) ?_
      rw [List.length_map, List.length_map]
      have KA := J9.K.chg (Chg.set (A := fun x => x = n * n + 5) (o := .lst (pc.map (pcV n) ++ [.tup [.int (pi : Int), .int (pj : Int), .int (((st (pi * n + pj)).length : Int) + 1)]])) rfl) (by rintro x rfl; omega)
      have gP : (h9.set (n * n + 5) (.lst (pc.map (pcV n) ++ [.tup [.int (pi : Int), .int (pj : Int), .int (((st (pi * n + pj)).length : Int) + 1)]])))[n * n + 5]? = some (.lst (pc.map (pcV n) ++ [.tup [.int (pi : Int), .int (pj : Int), .int (((st (pi * n + pj)).length : Int) + 1)]])) := List.getElem?_set_self (List.getElem?_eq_some_iff.mp J9.P).1
      obtain ⟨hA, eA⟩ : ∃ hA, h9.set (n * n + 5) (.lst (pc.map (pcV n) ++ [.tup [.int (pi : Int), .int (pj : Int), .int (((st (pi * n + pj)).length : Int) + 1)]])) = hA := ⟨_, rfl⟩
      rw [eA] at KA gP ⊢
      walk_at "s"
      refine t_kmeth KA.ins ?_
      walk_at "s"
      refine ⟨2, n, pi, pj, _, b, st, rfl, KA, hpi, hpj, Nat.le_trans (sl _ hpc) (by decide), fun hB KB FB => ?_⟩
      have gB := FB.2 (n * n + 5) (List.getElem?_eq_some_iff.mp gP).1 (by omega)
      rw [gP] at gB
      walk_at "s"
      refine t_lenS (fun z hh => by cases hh) (seq_lst gB) ?_
      rw [List.length_append, List.length_map, List.length_singleton]
      walk_at "s"
      rw [decide_eq_true (show (pc.length : Int) = ((pc.length + 1 : Nat) : Int) - 1 by omega)]
      rw [if_neg (show ¬ (!true) = true by decide)]
      walk_at "s"
      exact ⟨_, _, .inl ⟨rfl, rfl⟩, _, _, _, _, _, rfl, (J9.come (by omega) hpi hpj eA.symm KB FB).up (by omega) (by omega)⟩
    · obtain ⟨st, pc, x8, x9, x10, rfl, J⟩ := hI
      have pl := J.l
      refine t_seq ?_
      walk_at "s"
      refine ⟨2, n, n * n + 5, n * n + 6 + n * n, n * n + 6, b, st, pc, gn, rfl, J.K, J.S, J.P, J.G, n2, n6, by omega, J.t, by omega, by omega, by omega, by omega, by omega, fun hT KT ST GT cT => ?_⟩
      have JT := J.beat KT ST GT cT
      generalize goSt n (waveF n (cnts n st) b) st = stT at JT
      generalize midG n (cel (waveF n (cnts n st) b)) st gn = gnT at JT
      clear KT ST GT cT J
      walk_at "s"
      refine ⟨_, _, _, JT.G.dct, fun ob kvs ek => ?_⟩
      have KL := JT.K.chg (Chg.set (A := fun x => x = n * n + 6 + n * n) (o := .fdt ob kvs ((List.range (n * n)).map fun c => VV.ref (n * n + 6 + c))) rfl) (by rintro x rfl; omega)
      have PL : (hT.set (n * n + 6 + n * n) (VO.fdt ob kvs ((List.range (n * n)).map fun c => VV.ref (n * n + 6 + c))))[n * n + 5]? = some (.lst (pc.map (pcV n))) := by
        rw [List.getElem?_set_ne (by omega)]; exact JT.P
      have DL : (hT.set (n * n + 6 + n * n) (VO.fdt ob kvs ((List.range (n * n)).map fun c => VV.ref (n * n + 6 + c))))[n * n + 6 + n * n]? = some (.fdt ob kvs ((List.range (n * n)).map fun c => VV.ref (n * n + 6 + c))) := List.getElem?_set_self JT.len
      have CL : ∀ c, c < n * n → (hT.set (n * n + 6 + n * n) (VO.fdt ob kvs ((List.range (n * n)).map fun c => VV.ref (n * n + 6 + c))))[n * n + 6 + c]? = some (.lst ((gnT c).map .int)) := fun c hc => by
        rw [List.getElem?_set_ne (by omega)]; exact JT.G.cel c hc
      have bk : (hT.set (n * n + 6 + n * n) (VO.fdt ob kvs ((List.range (n * n)).map fun c => VV.ref (n * n + 6 + c)))).set (n * n + 6 + n * n) (.dtu ((List.range (n * n)).map (cKey n)) ((List.range (n * n)).map fun c => VV.ref (n * n + 6 + c))) = hT := by
        rw [List.set_set]
        obtain ⟨e1, e2⟩ := List.getElem?_eq_some_iff.mp JT.G.dct
        rw [← e2, List.set_getElem_self]
      generalize hT.set (n * n + 6 + n * n) (VO.fdt ob kvs ((List.range (n * n)).map fun c => VV.ref (n * n + 6 + c))) = hL at KL PL DL CL bk ⊢
      walk_at "s"
      refine t_kmeth KL.ins ?_
      walk_at "s"
      refine ⟨2, n, _, _, _, rfl, KL, by omega, ?_⟩
      walk_at "s"
      refine lc_mp (fun l : List Int => VV.tup (l.map .int)) (cnts n stT) (fun l => .int l.sum) rfl (by simp [cnts]; omega) trivial (fun l hl => ?_) ?_
      · walk_at "s"
        exact ⟨trivial, trivial⟩
      rw [show (cnts n stT).map (fun l => VV.int l.sum) = ((cnts n stT).map List.sum).map VV.int by rw [List.map_map]; rfl]
      walk_at "s"
      rw [show ((cnts n stT).map List.sum).sum = tt n stT by unfold cnts tt; rw [List.map_map]; rfl]
      refine t_lenS (fun z hh => by cases hh) (seq_lst PL) ?_
      rw [List.length_map]
      walk_at "s"
      refine t_giKA (fun Q q => t_V rfl q) DL ?_
      rw [ek, List.map_map]
      refine lc_mp (fun c => keyTV (cKey n c)) (List.range (n * n)) (fun c => .int ((gnT c).length : Int)) rfl (by rw [List.length_range]; omega) DL (fun c hc => ?_) ?_
      · have hc := List.mem_range.mp hc
        refine t_gtN ?_
        walk_at "s"
        refine t_kdg (w := .ref (n * n + 6 + c)) DL (show some (vG (kvs.map Prod.fst) _ (cKey n c)) = some (some _) by rw [ek, g_key hc]) ?_
        refine t_lenS (fun z hh => by cases hh) (seq_lst (CL c hc)) ?_
        rw [List.length_map]
        walk_at "s"
        exact ⟨trivial, trivial⟩
      rw [show (List.range (n * n)).map (fun c => VV.int ((gnT c).length : Int)) = ((List.range (n * n)).map fun c => ((gnT c).length : Int)).map VV.int by rw [List.map_map]; rfl]
      walk_at "s"
      rw [decide_eq_true (show tt n stT = _ from JT.S.total), if_neg (show ¬ (!true) = true by decide)]
      walk_at "s"
      refine ⟨DL, ?_⟩
      rw [bk]
      exact ⟨_, _, .inl ⟨rfl, rfl⟩, _, _, _, _, _, _, _, _, rfl, JT.up (by omega) (by omega)⟩
  obtain ⟨b, st, pc, gn, x5, x8, x9, x10, rfl, J⟩ := hI
  clear J5
  walk_at "s"
  have sl := J.sl (by omega)
  have pl := J.l
  have TT := tab_cnts n2 n6 sl
  refine t_kmeth J.K.ins ?_
  walk_at "s"
  refine ⟨2, n, _, _, _, rfl, J.K, by omega, ?_⟩
  walk_at "s"
  refine lc_rngm (fun c => .int (lat n (cnts n st) (c / n) (c % n))) (n * n) (by omega) trivial (fun c hc => ?_) ?_
  · obtain ⟨c1, c2, _⟩ := cell_lt hc
    walk_at "s"
    refine ⟨n, _, _, c / n, c % n, by rw [Int.natCast_ediv, Int.natCast_emod], TT, c1, c2, ?_⟩
    walk_at "s"
    exact ⟨trivial, trivial⟩
  refine t_maxS (ns := (List.range (n * n)).map fun c => lat n (cnts n st) (c / n) (c % n)) (by rw [List.map_map]; rfl) (by rw [List.length_map, List.length_range]; exact Nat.mul_pos (by omega) (by omega)) ?_
  obtain ⟨far, hfar⟩ : ∃ far, mxL ((List.range (n * n)).map fun c => lat n (cnts n st) (c / n) (c % n)) = far := ⟨_, rfl⟩
  have far_ge : ∀ c, c < n * n → lat n (cnts n st) (c / n) (c % n) ≤ far := fun c hc => by
    rw [← hfar]; exact mxL_ge (List.mem_map.mpr ⟨c, List.mem_range.mpr hc, rfl⟩)
  have far0 : 0 ≤ far := by
    obtain ⟨c1, c2, _⟩ := cell_lt (n := n) (c := 0) (Nat.mul_pos (by omega) (by omega))
    exact Int.le_trans (lat_nn TT c1 c2) (far_ge 0 (Nat.mul_pos (by omega) (by omega)))
  have far1 : far ≤ 1000000 := by
    have := mxL_mem (ns := (List.range (n * n)).map fun c => lat n (cnts n st) (c / n) (c % n)) (by rw [List.length_map, List.length_range]; exact Nat.mul_pos (by omega) (by omega))
    rw [hfar] at this
    obtain ⟨c, hc, e⟩ := List.mem_map.mp this
    obtain ⟨c1, c2, _⟩ := cell_lt (List.mem_range.mp hc)
    have := lat_cap TT c1 c2 (by decide)
    rw [e] at this
    have : (n : Int) * ((200 : Nat) : Int) ≤ 6 * 200 := Int.mul_le_mul (by omega) (by decide) (by decide) (by decide)
    omega
  rw [hfar]
  have L0 : ∀ a c, a < n → c < n → aij (cnts n st) a c ≠ 0 → lat n (cnts n st) a c + ((0 : Nat) : Int) ≤ far := fun a c ha hc _ => by
    have := far_ge _ (flat_lt ha hc)
    rw [flat_div hc, flat_mod hc] at this
    simpa using this
  clear hfar far_ge
  generalize tv (cnts n st) = tab
  walk_at "s"
  refine for_rng (fun i ρ h' => ∃ (b : Int) (st : Nat → List (Int × Int)) (gn : Nat → List Int) (x5 x13 : Option VV), ρ = [some (.rol (ns0.map .int)), some (.ref 1), some (.int n), some (.ref 2), some (.ref (n * n + 5)), x5, some (.ref (n * n + 6 + n * n)), some (.tup [.int o1, .int o2]), x8, x9, x10, some tab, some (.int far), x13, none, none] ∧ J53 C h' n b st pc gn 60 (10 + 20 * (1 + m).toNat) ∧ ∀ a c, a < n → c < n → aij (cnts n st) a c ≠ 0 → lat n (cnts n st) a c + (i : Nat) ≤ far)
    far.toNat (fun _ => trivial) ⟨_, _, _, _, _, rfl, J.up (by omega) (by omega), L0⟩ (fun i ρ h hi hI => ?_) (fun ρ h hI => ?_)
  · clear J L0 TT sl pl
    obtain ⟨b, st, gn, x5, x13, rfl, J, L⟩ := hI
    have sl := J.sl (by omega)
    have pl := J.l
    refine t_gtN ?_
    walk_at "s"
    refine t_kmeth J.K.ins ?_
    walk_at "s"
    refine ⟨2, n, _, _, _, rfl, J.K, by omega, ?_⟩
    walk_at "s"
    refine lc_mp (fun l : List Int => VV.tup (l.map .int)) (cnts n st) (fun l => .int l.sum) rfl (by simp [cnts]; omega) trivial (fun l hl => ?_) ?_
    · walk_at "s"
      exact ⟨trivial, trivial⟩
    rw [show (cnts n st).map (fun l => VV.int l.sum) = ((cnts n st).map List.sum).map VV.int by rw [List.map_map]; rfl]
    walk_at "s"
    rw [show ((cnts n st).map List.sum).sum = tt n st by unfold cnts tt; rw [List.map_map]; rfl]
    refine t_seq ?_
    walk_at "s"
    refine ⟨2, n, n * n + 5, n * n + 6 + n * n, n * n + 6, b, st, pc, gn, rfl, J.K, J.S, J.P, J.G, n2, n6, by omega, J.t, by omega, by omega, by omega, by omega, by omega, fun hT KT ST GT cT => ?_⟩
    have JT := J.beat KT ST GT cT
    have LT := lat_beat (b := b) n2 n6 sl L
    have tl := tt_less (b := b) n2 n6 sl
    generalize goSt n (waveF n (cnts n st) b) st = stT at JT LT tl
    generalize midG n (cel (waveF n (cnts n st) b)) st gn = gnT at JT
    clear KT ST GT cT J L
    walk_at "s"
    refine t_ite (fun hp => ?_) (fun hp => ?_)
    · have hp := tl hp
      walk_at "s"
      refine t_kmeth JT.K.ins ?_
      walk_at "s"
      refine ⟨2, n, _, _, _, rfl, JT.K, by omega, ?_⟩
      walk_at "s"
      refine lc_mp (fun l : List Int => VV.tup (l.map .int)) (cnts n stT) (fun l => .int l.sum) rfl (by simp [cnts]; omega) trivial (fun l hl => ?_) ?_
      · walk_at "s"
        exact ⟨trivial, trivial⟩
      rw [show (cnts n stT).map (fun l => VV.int l.sum) = ((cnts n stT).map List.sum).map VV.int by rw [List.map_map]; rfl]
      walk_at "s"
      rw [show ((cnts n stT).map List.sum).sum = tt n stT by unfold cnts tt; rw [List.map_map]; rfl]
      walk_at "s"
      rw [decide_eq_false (by omega)]
      walk_at "s"
      exact ⟨_, _, .inl ⟨rfl, rfl⟩, _, _, _, _, _, rfl, JT, LT⟩
    · walk_at "s"
      exact ⟨_, _, .inl ⟨rfl, rfl⟩, _, _, _, _, _, rfl, JT, LT⟩
  obtain ⟨b, st, gn, x5, x13, rfl, J, L⟩ := hI
  have E0 := lat_done n2 n6 (J.sl (by omega)) far0 L
  have pl := J.l
  refine t_seq ?_
  walk_at "s"
  refine t_kmeth J.K.ins ?_
  walk_at "s"
  refine ⟨2, n, _, _, _, rfl, J.K, by omega, ?_⟩
  walk_at "s"
  refine lc_mp (fun l : List Int => VV.tup (l.map .int)) (cnts n st) (fun l => .int l.sum) rfl (by simp [cnts]; omega) trivial (fun l hl => ?_) ?_
  · walk_at "s"
    exact ⟨trivial, trivial⟩
  rw [show (cnts n st).map (fun l => VV.int l.sum) = ((cnts n st).map List.sum).map VV.int by rw [List.map_map]; rfl]
  walk_at "s"
  rw [show ((cnts n st).map List.sum).sum = tt n st by unfold cnts tt; rw [List.map_map]; rfl]
  rw [tt_zero E0]
  walk_at "s"
  refine t_seqFD ?_
  refine ⟨_, _, _, J.G.dct, fun ob kvs ek => ?_⟩
  have PL : (h.set (n * n + 6 + n * n) (VO.fdt ob kvs ((List.range (n * n)).map fun c => VV.ref (n * n + 6 + c))))[n * n + 5]? = some (.lst (pc.map (pcV n))) := by
    rw [List.getElem?_set_ne (by omega)]; exact J.P
  have DL : (h.set (n * n + 6 + n * n) (VO.fdt ob kvs ((List.range (n * n)).map fun c => VV.ref (n * n + 6 + c))))[n * n + 6 + n * n]? = some (.fdt ob kvs ((List.range (n * n)).map fun c => VV.ref (n * n + 6 + c))) := List.getElem?_set_self J.len
  have CL : ∀ c, c < n * n → (h.set (n * n + 6 + n * n) (VO.fdt ob kvs ((List.range (n * n)).map fun c => VV.ref (n * n + 6 + c))))[n * n + 6 + c]? = some (.lst ((idx pc c).map .int)) := fun c hc => by
    rw [List.getElem?_set_ne (by omega), ← J.S.A c hc, E0 c hc, List.map_nil, List.append_nil]; exact J.G.cel c hc
  generalize h.set (n * n + 6 + n * n) (VO.fdt ob kvs ((List.range (n * n)).map fun c => VV.ref (n * n + 6 + c))) = hL at PL DL CL ⊢
  refine t_for ?_
  refine t_V rfl ⟨rfl, DL, ?_⟩
  rw [ek]
  refine for_ls (fun i ρ h' => ∃ (x5 x9 x10 : Option VV), ρ = [some (.rol (ns0.map .int)), some (.ref 1), some (.int n), some (.ref 2), some (.ref (n * n + 5)), x5, some (.ref (n * n + 6 + n * n)), some (.tup [.int o1, .int o2]), x8, x9, x10, some tab, some (.int far), x13, none, none] ∧ h' = hL)
    (fun _ _ _ ⟨_, _, _, _, e⟩ => by rw [e]; exact DL) ⟨_, _, _, rfl, rfl⟩ (fun i x ρ h' hx hI => ?_) (fun ρ h' hI => ?_)
  · obtain ⟨x5, x9, x10, rfl, rfl⟩ := hI
    obtain ⟨key, hk, rfl⟩ := List.mem_map.mp (List.mem_of_getElem? hx)
    obtain ⟨c, hc, rfl⟩ := List.mem_map.mp hk
    have hc := List.mem_range.mp hc
    rw [show keyTV (cKey n c) = .tup [.int ((c / n : Nat) : Int), .int ((c % n : Nat) : Int)] from rfl]
    walk_at "s"
    refine t_kdg (w := .ref (n * n + 6 + c)) DL (show some (vG (kvs.map Prod.fst) _ (cKey n c)) = some (some _) by rw [ek, g_key hc]) ?_
    walk_at "s"
    refine t_lenS (fun z hh => by cases hh) (seq_lst PL) ?_
    rw [List.length_map]
    walk_at "s"
    refine lc_rng (fun k => if (pc.getD k (0, 0)).1 = c then some (.int (k : Int)) else none) pc.length (by omega) trivial (fun k hk => ?_) ?_
    · have ep := at_get (F := pcV n) (List.getElem?_eq_getElem hk)
      have eg : pc.getD k (0, 0) = pc[k] := by rw [List.getD_eq_getElem?_getD, List.getElem?_eq_getElem hk]; rfl
      rw [eg]
      have lk := J.S.C _ (List.getElem_mem hk)
      generalize pc[k] = y at ep lk
      refine t_gtN ?_
      walk_at "s"
      refine t_ix (fun _ hh => by cases hh) (seq_lst PL) ep ?_
      unfold pcV
      walk_at "s"
      refine t_eq (d := .tuple [.int ((y.1 / n : Nat) : Int), .int ((y.1 % n : Nat) : Int)]) (e := .tuple [.int ((c / n : Nat) : Int), .int ((c % n : Nat) : Int)]) rfl rfl ?_
      rw [eqv_pq (p := (_, _)) (q := (_, _))]
      by_cases z : y.1 = c
      · rw [z, decide_eq_true rfl]
        walk_at "s"
        exact ⟨by simp, trivial⟩
      · rw [decide_eq_false (fun e => z ?_), if_neg z]
        · walk_at "s"
          exact ⟨rfl, rfl⟩
        · have e1 := Int.ofNat.inj (Prod.mk.inj e).1
          have e2 := Int.ofNat.inj (Prod.mk.inj e).2
          have h1 := Nat.div_add_mod y.1 n
          rw [e1, e2, Nat.div_add_mod] at h1
          exact h1.symm
    have ei : (List.range pc.length).filterMap (fun k => if (pc.getD k (0, 0)).1 = c then some (VV.int (k : Int)) else none) = (idx pc c).map VV.int := by
      unfold idx
      rw [List.map_map]
      induction List.range pc.length with
      | nil => rfl
      | cons k l ih =>
        by_cases z : (pc.getD k (0, 0)).1 = c
        · rw [List.filterMap_cons, if_pos z, List.filter_cons, if_pos (decide_eq_true z), List.map_cons, ih]; rfl
        · rw [List.filterMap_cons, if_neg z, List.filter_cons, if_neg (by simpa using z), ih]
    walk_at "s"
    rw [ei]
    refine t_ne (dR_ref (CL c hc) (optAll_ints _)) (dR_new (optAll_ints _)) ?_
    rw [eqv_ints]
    rw [show (!true) = false from rfl]
    walk_at "s"
    exact ⟨_, _, .inl ⟨rfl, rfl⟩, _, _, _, rfl, rfl⟩
  obtain ⟨x5, x9, x10, rfl, rfl⟩ := hI
  refine ⟨DL, ?_⟩
  walk_at "s"
  exact finK (kq _)

theorem main {P : Program} {w : World} {K : PySem.W.Frag} {mg : Str → Option Value} {base : Heap} (T : Gs K mg) : Ok P w K mg base 7 T.a_law T.d_law P_law sLaw :=
  have iw := ok_is_whole (P := P) (w := w) (base := base) T k_iswhole
  have am := ok_is_among T iw k_among
  have iz := ok_is_size (P := P) (w := w) (base := base) T k_size
  have cl := ok_check_line T am k_check
  have cls := ok_check_lines T cl k_checks
  have ac := ok_all_cells (P := P) (w := w) (base := base) T k_allc
  have wc := ok_wished_cells (P := P) (w := w) (base := base) T k_wished
  have ca := ok_count_at T am k_count
  have ls := ok_line_sum (P := P) (w := w) (base := base) T k_ls
  have ip := ok_is_pairing T iz am k_pairing
  have ce := ok_cells_of (P := P) (w := w) (base := base) T k_cells
  have iwi := ok_is_within T ip ce k_within
  have fu := ok_is_full T iwi wc k_full
  have wv := ok_wave (P := P) (w := w) (base := base) T k_waveX
  have ki := ok_Keeper___init__ T ac (k_kinit (C := T.c_Keeper))
  have kc := ok_Keeper_come T cls (k_come (C := T.c_Keeper))
  have kn := ok_Keeper__counts_of (P := P) (w := w) (base := base) T (k_counts (C := T.c_Keeper))
  have kt := ok_Keeper_table T kn (k_ktab (C := T.c_Keeper))
  have kb := ok_Keeper_beat T ce wv kt (k_beat (C := T.c_Keeper))
  have kw := ok_Keeper_waiting T cls (k_wait (C := T.c_Keeper))
  have la := ok_latest T ca ls k_latest
  have d := ok_u_law_pull (P := P) (w := w) (base := base) T k_pull
  have lt := ok_u_law_taken T kt kb fu (k_taken53 (C := T.c_Keeper))
  ok_law T d ki kw kc lt kt la (k_law (C := T.c_Keeper))

end My
namespace Tx
open PySem L2 VL
theorem all_mk {l : PySem.W.OpenLaw} {w : World} {K : PySem.W.Frag} {h : Heap} {mg : Str → Option Value} {fa : Addr} (X : K.In h) (G : h.Ns mainGlobals mg) (hfa : mg "law" = some (.ref fa))
    (Main : ∀ (base : Heap) (T : Gs K mg), Ok l.prog w K mg base 7 T.a_law T.d_law P_law sLaw)
    {C0 : Addr} (aC0 : PySem.W.nsIn K mainGlobals "Keeper" = some (some (.ref C0)))
    {f0 : Addr} {od0 an0 : Option Addr} {sl0 : Array (Option Value)} {oc0 kV0 dc0 pm0 cd0 ct0 : Value}
    (a0 : PySem.W.nsIn K mainGlobals "is_whole" = some (some (.ref f0))) (l0 : K.lookup f0 = some ⟨oc0, od0, .func (PySem.W.fnOf "is_whole" "is_whole" (defArgs s_is_whole) (defBody s_is_whole) (defScope s_is_whole) .none kV0 dc0 pm0 an0 cd0 ct0), sl0⟩) (c0 : PySem.W.codeIn K cd0 "is_whole" = true) (k0 : PySem.W.keepIn K (.ref f0) = true)
    {f1 : Addr} {od1 an1 : Option Addr} {sl1 : Array (Option Value)} {oc1 kV1 dc1 pm1 cd1 ct1 : Value}
    (a1 : PySem.W.nsIn K mainGlobals "is_among" = some (some (.ref f1))) (l1 : K.lookup f1 = some ⟨oc1, od1, .func (PySem.W.fnOf "is_among" "is_among" (defArgs s_is_among) (defBody s_is_among) (defScope s_is_among) .none kV1 dc1 pm1 an1 cd1 ct1), sl1⟩) (c1 : PySem.W.codeIn K cd1 "is_among" = true) (k1 : PySem.W.keepIn K (.ref f1) = true)
    {f2 : Addr} {od2 an2 : Option Addr} {sl2 : Array (Option Value)} {oc2 kV2 dc2 pm2 cd2 ct2 : Value}
    (a2 : PySem.W.nsIn K mainGlobals "is_size" = some (some (.ref f2))) (l2 : K.lookup f2 = some ⟨oc2, od2, .func (PySem.W.fnOf "is_size" "is_size" (defArgs s_is_size) (defBody s_is_size) (defScope s_is_size) .none kV2 dc2 pm2 an2 cd2 ct2), sl2⟩) (c2 : PySem.W.codeIn K cd2 "is_size" = true) (k2 : PySem.W.keepIn K (.ref f2) = true)
    {f3 : Addr} {od3 an3 : Option Addr} {sl3 : Array (Option Value)} {oc3 kV3 dc3 pm3 cd3 ct3 : Value}
    (a3 : PySem.W.nsIn K mainGlobals "check_line" = some (some (.ref f3))) (l3 : K.lookup f3 = some ⟨oc3, od3, .func (PySem.W.fnOf "check_line" "check_line" (defArgs s_check_line) (defBody s_check_line) (defScope s_check_line) .none kV3 dc3 pm3 an3 cd3 ct3), sl3⟩) (c3 : PySem.W.codeIn K cd3 "check_line" = true) (k3 : PySem.W.keepIn K (.ref f3) = true)
    {f4 : Addr} {od4 an4 : Option Addr} {sl4 : Array (Option Value)} {oc4 kV4 dc4 pm4 cd4 ct4 : Value}
    (a4 : PySem.W.nsIn K mainGlobals "check_lines" = some (some (.ref f4))) (l4 : K.lookup f4 = some ⟨oc4, od4, .func (PySem.W.fnOf "check_lines" "check_lines" (defArgs s_check_lines) (defBody s_check_lines) (defScope s_check_lines) .none kV4 dc4 pm4 an4 cd4 ct4), sl4⟩) (c4 : PySem.W.codeIn K cd4 "check_lines" = true) (k4 : PySem.W.keepIn K (.ref f4) = true)
    {f5 : Addr} {od5 an5 : Option Addr} {sl5 : Array (Option Value)} {oc5 kV5 dc5 pm5 cd5 ct5 : Value}
    (a5 : PySem.W.nsIn K mainGlobals "all_cells" = some (some (.ref f5))) (l5 : K.lookup f5 = some ⟨oc5, od5, .func (PySem.W.fnOf "all_cells" "all_cells" (defArgs s_all_cells) (defBody s_all_cells) (defScope s_all_cells) .none kV5 dc5 pm5 an5 cd5 ct5), sl5⟩) (c5 : PySem.W.codeIn K cd5 "all_cells" = true) (k5 : PySem.W.keepIn K (.ref f5) = true)
    {f6 : Addr} {od6 an6 : Option Addr} {sl6 : Array (Option Value)} {oc6 kV6 dc6 pm6 cd6 ct6 : Value}
    (a6 : PySem.W.nsIn K mainGlobals "wished_cells" = some (some (.ref f6))) (l6 : K.lookup f6 = some ⟨oc6, od6, .func (PySem.W.fnOf "wished_cells" "wished_cells" (defArgs s_wished_cells) (defBody s_wished_cells) (defScope s_wished_cells) .none kV6 dc6 pm6 an6 cd6 ct6), sl6⟩) (c6 : PySem.W.codeIn K cd6 "wished_cells" = true) (k6 : PySem.W.keepIn K (.ref f6) = true)
    {f7 : Addr} {od7 an7 : Option Addr} {sl7 : Array (Option Value)} {oc7 kV7 dc7 pm7 cd7 ct7 : Value}
    (a7 : PySem.W.nsIn K mainGlobals "count_at" = some (some (.ref f7))) (l7 : K.lookup f7 = some ⟨oc7, od7, .func (PySem.W.fnOf "count_at" "count_at" (defArgs s_count_at) (defBody s_count_at) (defScope s_count_at) .none kV7 dc7 pm7 an7 cd7 ct7), sl7⟩) (c7 : PySem.W.codeIn K cd7 "count_at" = true) (k7 : PySem.W.keepIn K (.ref f7) = true)
    {f8 : Addr} {od8 an8 : Option Addr} {sl8 : Array (Option Value)} {oc8 kV8 dc8 pm8 cd8 ct8 : Value}
    (a8 : PySem.W.nsIn K mainGlobals "line_sum" = some (some (.ref f8))) (l8 : K.lookup f8 = some ⟨oc8, od8, .func (PySem.W.fnOf "line_sum" "line_sum" (defArgs s_line_sum) (defBody s_line_sum) (defScope s_line_sum) .none kV8 dc8 pm8 an8 cd8 ct8), sl8⟩) (c8 : PySem.W.codeIn K cd8 "line_sum" = true) (k8 : PySem.W.keepIn K (.ref f8) = true)
    {f9 : Addr} {od9 an9 : Option Addr} {sl9 : Array (Option Value)} {oc9 kV9 dc9 pm9 cd9 ct9 : Value}
    (a9 : PySem.W.nsIn K mainGlobals "is_pairing" = some (some (.ref f9))) (l9 : K.lookup f9 = some ⟨oc9, od9, .func (PySem.W.fnOf "is_pairing" "is_pairing" (defArgs s_is_pairing) (defBody s_is_pairing) (defScope s_is_pairing) .none kV9 dc9 pm9 an9 cd9 ct9), sl9⟩) (c9 : PySem.W.codeIn K cd9 "is_pairing" = true) (k9 : PySem.W.keepIn K (.ref f9) = true)
    {f10 : Addr} {od10 an10 : Option Addr} {sl10 : Array (Option Value)} {oc10 kV10 dc10 pm10 cd10 ct10 : Value}
    (a10 : PySem.W.nsIn K mainGlobals "cells_of" = some (some (.ref f10))) (l10 : K.lookup f10 = some ⟨oc10, od10, .func (PySem.W.fnOf "cells_of" "cells_of" (defArgs s_cells_of) (defBody s_cells_of) (defScope s_cells_of) .none kV10 dc10 pm10 an10 cd10 ct10), sl10⟩) (c10 : PySem.W.codeIn K cd10 "cells_of" = true) (k10 : PySem.W.keepIn K (.ref f10) = true)
    {f11 : Addr} {od11 an11 : Option Addr} {sl11 : Array (Option Value)} {oc11 kV11 dc11 pm11 cd11 ct11 : Value}
    (a11 : PySem.W.nsIn K mainGlobals "is_within" = some (some (.ref f11))) (l11 : K.lookup f11 = some ⟨oc11, od11, .func (PySem.W.fnOf "is_within" "is_within" (defArgs s_is_within) (defBody s_is_within) (defScope s_is_within) .none kV11 dc11 pm11 an11 cd11 ct11), sl11⟩) (c11 : PySem.W.codeIn K cd11 "is_within" = true) (k11 : PySem.W.keepIn K (.ref f11) = true)
    {f12 : Addr} {od12 an12 : Option Addr} {sl12 : Array (Option Value)} {oc12 kV12 dc12 pm12 cd12 ct12 : Value}
    (a12 : PySem.W.nsIn K mainGlobals "is_full" = some (some (.ref f12))) (l12 : K.lookup f12 = some ⟨oc12, od12, .func (PySem.W.fnOf "is_full" "is_full" (defArgs s_is_full) (defBody s_is_full) (defScope s_is_full) .none kV12 dc12 pm12 an12 cd12 ct12), sl12⟩) (c12 : PySem.W.codeIn K cd12 "is_full" = true) (k12 : PySem.W.keepIn K (.ref f12) = true)
    {f13 : Addr} {od13 an13 : Option Addr} {sl13 : Array (Option Value)} {oc13 kV13 dc13 pm13 cd13 ct13 : Value}
    (a13 : PySem.W.nsIn K mainGlobals "wave" = some (some (.ref f13))) (l13 : K.lookup f13 = some ⟨oc13, od13, .func (PySem.W.fnOf "wave" "wave" (defArgs s_wave) (defBody s_wave) (defScope s_wave) .none kV13 dc13 pm13 an13 cd13 ct13), sl13⟩) (c13 : PySem.W.codeIn K cd13 "wave" = true) (k13 : PySem.W.keepIn K (.ref f13) = true)
    {f14 : Addr} {od14 an14 : Option Addr} {sl14 : Array (Option Value)} {oc14 kV14 dc14 pm14 cd14 ct14 : Value}
    (a14 : PySem.W.findIn K (.ref C0) "__init__" = some (some (.ref f14))) (i14 : PySem.W.isFn K (.ref f14) = true) (l14 : K.lookup f14 = some ⟨oc14, od14, .func (PySem.W.fnOf "__init__" "Keeper.__init__" (defArgs s_Keeper___init__) (defBody s_Keeper___init__) (defScope s_Keeper___init__) .none kV14 dc14 pm14 an14 cd14 ct14), sl14⟩) (c14 : PySem.W.codeIn K cd14 "Keeper.__init__" = true) (k14 : PySem.W.keepIn K (.ref f14) = true)
    {f15 : Addr} {od15 an15 : Option Addr} {sl15 : Array (Option Value)} {oc15 kV15 dc15 pm15 cd15 ct15 : Value}
    (a15 : PySem.W.findIn K (.ref C0) "come" = some (some (.ref f15))) (i15 : PySem.W.isFn K (.ref f15) = true) (l15 : K.lookup f15 = some ⟨oc15, od15, .func (PySem.W.fnOf "come" "Keeper.come" (defArgs s_Keeper_come) (defBody s_Keeper_come) (defScope s_Keeper_come) .none kV15 dc15 pm15 an15 cd15 ct15), sl15⟩) (c15 : PySem.W.codeIn K cd15 "Keeper.come" = true) (k15 : PySem.W.keepIn K (.ref f15) = true)
    {f16 : Addr} {od16 an16 : Option Addr} {sl16 : Array (Option Value)} {oc16 kV16 dc16 pm16 cd16 ct16 : Value}
    (a16 : PySem.W.findIn K (.ref C0) "_counts_of" = some (some (.ref f16))) (i16 : PySem.W.isFn K (.ref f16) = true) (l16 : K.lookup f16 = some ⟨oc16, od16, .func (PySem.W.fnOf "_counts_of" "Keeper._counts_of" (defArgs s_Keeper__counts_of) (defBody s_Keeper__counts_of) (defScope s_Keeper__counts_of) .none kV16 dc16 pm16 an16 cd16 ct16), sl16⟩) (c16 : PySem.W.codeIn K cd16 "Keeper._counts_of" = true) (k16 : PySem.W.keepIn K (.ref f16) = true)
    {f17 : Addr} {od17 an17 : Option Addr} {sl17 : Array (Option Value)} {oc17 kV17 dc17 pm17 cd17 ct17 : Value}
    (a17 : PySem.W.findIn K (.ref C0) "table" = some (some (.ref f17))) (i17 : PySem.W.isFn K (.ref f17) = true) (l17 : K.lookup f17 = some ⟨oc17, od17, .func (PySem.W.fnOf "table" "Keeper.table" (defArgs s_Keeper_table) (defBody s_Keeper_table) (defScope s_Keeper_table) .none kV17 dc17 pm17 an17 cd17 ct17), sl17⟩) (c17 : PySem.W.codeIn K cd17 "Keeper.table" = true) (k17 : PySem.W.keepIn K (.ref f17) = true)
    {f18 : Addr} {od18 an18 : Option Addr} {sl18 : Array (Option Value)} {oc18 kV18 dc18 pm18 cd18 ct18 : Value}
    (a18 : PySem.W.findIn K (.ref C0) "beat" = some (some (.ref f18))) (i18 : PySem.W.isFn K (.ref f18) = true) (l18 : K.lookup f18 = some ⟨oc18, od18, .func (PySem.W.fnOf "beat" "Keeper.beat" (defArgs s_Keeper_beat) (defBody s_Keeper_beat) (defScope s_Keeper_beat) .none kV18 dc18 pm18 an18 cd18 ct18), sl18⟩) (c18 : PySem.W.codeIn K cd18 "Keeper.beat" = true) (k18 : PySem.W.keepIn K (.ref f18) = true)
    {f19 : Addr} {od19 an19 : Option Addr} {sl19 : Array (Option Value)} {oc19 kV19 dc19 pm19 cd19 ct19 : Value}
    (a19 : PySem.W.findIn K (.ref C0) "beats" = some (some (.ref f19))) (i19 : PySem.W.isFn K (.ref f19) = true) (l19 : K.lookup f19 = some ⟨oc19, od19, .func (PySem.W.fnOf "beats" "Keeper.beats" (defArgs s_Keeper_beats) (defBody s_Keeper_beats) (defScope s_Keeper_beats) .none kV19 dc19 pm19 an19 cd19 ct19), sl19⟩) (c19 : PySem.W.codeIn K cd19 "Keeper.beats" = true) (k19 : PySem.W.keepIn K (.ref f19) = true)
    {f20 : Addr} {od20 an20 : Option Addr} {sl20 : Array (Option Value)} {oc20 kV20 dc20 pm20 cd20 ct20 : Value}
    (a20 : PySem.W.findIn K (.ref C0) "waiting" = some (some (.ref f20))) (i20 : PySem.W.isFn K (.ref f20) = true) (l20 : K.lookup f20 = some ⟨oc20, od20, .func (PySem.W.fnOf "waiting" "Keeper.waiting" (defArgs s_Keeper_waiting) (defBody s_Keeper_waiting) (defScope s_Keeper_waiting) .none kV20 dc20 pm20 an20 cd20 ct20), sl20⟩) (c20 : PySem.W.codeIn K cd20 "Keeper.waiting" = true) (k20 : PySem.W.keepIn K (.ref f20) = true)
    {f21 : Addr} {od21 an21 : Option Addr} {sl21 : Array (Option Value)} {oc21 kV21 dc21 pm21 cd21 ct21 : Value}
    (a21 : PySem.W.nsIn K mainGlobals "latest" = some (some (.ref f21))) (l21 : K.lookup f21 = some ⟨oc21, od21, .func (PySem.W.fnOf "latest" "latest" (defArgs s_latest) (defBody s_latest) (defScope s_latest) .none kV21 dc21 pm21 an21 cd21 ct21), sl21⟩) (c21 : PySem.W.codeIn K cd21 "latest" = true) (k21 : PySem.W.keepIn K (.ref f21) = true)
    {f22 : Addr} {od22 an22 : Option Addr} {sl22 : Array (Option Value)} {oc22 kV22 dc22 pm22 cd22 ct22 : Value}
    (a22 : PySem.W.nsIn K mainGlobals "_law_pull" = some (some (.ref f22))) (l22 : K.lookup f22 = some ⟨oc22, od22, .func (PySem.W.fnOf "_law_pull" "_law_pull" (defArgs s_u_law_pull) (defBody s_u_law_pull) (defScope s_u_law_pull) .none kV22 dc22 pm22 an22 cd22 ct22), sl22⟩) (c22 : PySem.W.codeIn K cd22 "_law_pull" = true) (k22 : PySem.W.keepIn K (.ref f22) = true)
    {f23 : Addr} {od23 an23 : Option Addr} {sl23 : Array (Option Value)} {oc23 kV23 dc23 pm23 cd23 ct23 : Value}
    (a23 : PySem.W.nsIn K mainGlobals "_law_taken" = some (some (.ref f23))) (l23 : K.lookup f23 = some ⟨oc23, od23, .func (PySem.W.fnOf "_law_taken" "_law_taken" (defArgs s_u_law_taken) (defBody s_u_law_taken) (defScope s_u_law_taken) .none kV23 dc23 pm23 an23 cd23 ct23), sl23⟩) (c23 : PySem.W.codeIn K cd23 "_law_taken" = true) (k23 : PySem.W.keepIn K (.ref f23) = true)
    {f24 : Addr} {od24 an24 : Option Addr} {sl24 : Array (Option Value)} {oc24 kV24 dc24 pm24 cd24 ct24 : Value}
    (a24 : PySem.W.nsIn K mainGlobals "law" = some (some (.ref f24))) (l24 : K.lookup f24 = some ⟨oc24, od24, .func (PySem.W.fnOf "law" "law" (defArgs s_law) (defBody s_law) (defScope s_law) .none kV24 dc24 pm24 an24 cd24 ct24), sl24⟩) (c24 : PySem.W.codeIn K cd24 "law" = true) (k24 : PySem.W.keepIn K (.ref f24) = true)
    (pg0 : PySem.W.plainGet K C0 Str.empty = true) (hd0 : PySem.W.hasDictIn K C0 = true) (po0 : PySem.W.plainOver K C0 = true) (sa0 : PySem.W.findIn K (.ref C0) "__setattr__" = some (some (.builtin "object.__setattr__"))) (mk0 : PySem.W.makesIn K C0 = true) (kc0 : PySem.W.keepIn K (.ref C0) = true)
    (na0_0 : PySem.W.findIn K (.ref C0) "_n" = some none)
    (na0_1 : PySem.W.findIn K (.ref C0) "_many_came" = some none)
    (na0_2 : PySem.W.findIn K (.ref C0) "_many_beats" = some none)
    (na0_3 : PySem.W.findIn K (.ref C0) "_standing" = some none)
    {tk0 : Tok} (n0 : PySem.W.nsIn K mainGlobals "LEAST_LINES" = some (some (.int 2 tk0)))
    {tk1 : Tok} (n1 : PySem.W.nsIn K mainGlobals "MOST_LINES" = some (some (.int 6 tk1)))
    (z0 : PySem.W.nsIn K mainGlobals "all" = some none)
    (z1 : PySem.W.nsIn K mainGlobals "bool" = some none)
    (z2 : PySem.W.nsIn K mainGlobals "dict" = some none)
    (z3 : PySem.W.nsIn K mainGlobals "enumerate" = some none)
    (z4 : PySem.W.nsIn K mainGlobals "int" = some none)
    (z5 : PySem.W.nsIn K mainGlobals "isinstance" = some none)
    (z6 : PySem.W.nsIn K mainGlobals "len" = some none)
    (z7 : PySem.W.nsIn K mainGlobals "list" = some none)
    (z8 : PySem.W.nsIn K mainGlobals "max" = some none)
    (z9 : PySem.W.nsIn K mainGlobals "range" = some none)
    (z10 : PySem.W.nsIn K mainGlobals "set" = some none)
    (z11 : PySem.W.nsIn K mainGlobals "sum" = some none)
    (z12 : PySem.W.nsIn K mainGlobals "tuple" = some none)
    : ∃ fd : FuncData, (∀ (s : Shared) (v : Value), BindsTo s fd ⟨[v], []⟩ [("script", v)]) ∧ ∀ base : Heap, K.In base → base.Ns mainGlobals mg → FnOk l.prog w K mg base CX0 7 fa fd ["script"] (spOf K 1 sLaw) := by
  have e := hfa.symm.trans (PySem.W.mg_of X G a24)
  cases e
  have F0 := fun_mk (st := s_is_whole) l0 c0 k0
  have b0 := F0.binds (ps := P_is_whole) fun _ _ _ _ _ _ us hl => match us, hl with | [_], _ => rfl
  have F1 := fun_mk (st := s_is_among) l1 c1 k1
  have b1 := F1.binds (ps := P_is_among) fun _ _ _ _ _ _ us hl => match us, hl with | [_, _], _ => rfl
  have F2 := fun_mk (st := s_is_size) l2 c2 k2
  have b2 := F2.binds (ps := P_is_size) fun _ _ _ _ _ _ us hl => match us, hl with | [_], _ => rfl
  have F3 := fun_mk (st := s_check_line) l3 c3 k3
  have b3 := F3.binds (ps := P_check_line) fun _ _ _ _ _ _ us hl => match us, hl with | [_, _, _], _ => rfl
  have F4 := fun_mk (st := s_check_lines) l4 c4 k4
  have b4 := F4.binds (ps := P_check_lines) fun _ _ _ _ _ _ us hl => match us, hl with | [_, _, _], _ => rfl
  have F5 := fun_mk (st := s_all_cells) l5 c5 k5
  have b5 := F5.binds (ps := P_all_cells) fun _ _ _ _ _ _ us hl => match us, hl with | [_], _ => rfl
  have F6 := fun_mk (st := s_wished_cells) l6 c6 k6
  have b6 := F6.binds (ps := P_wished_cells) fun _ _ _ _ _ _ us hl => match us, hl with | [_], _ => rfl
  have F7 := fun_mk (st := s_count_at) l7 c7 k7
  have b7 := F7.binds (ps := P_count_at) fun _ _ _ _ _ _ us hl => match us, hl with | [_, _, _], _ => rfl
  have F8 := fun_mk (st := s_line_sum) l8 c8 k8
  have b8 := F8.binds (ps := P_line_sum) fun _ _ _ _ _ _ us hl => match us, hl with | [_, _], _ => rfl
  have F9 := fun_mk (st := s_is_pairing) l9 c9 k9
  have b9 := F9.binds (ps := P_is_pairing) fun _ _ _ _ _ _ us hl => match us, hl with | [_, _], _ => rfl
  have F10 := fun_mk (st := s_cells_of) l10 c10 k10
  have b10 := F10.binds (ps := P_cells_of) fun _ _ _ _ _ _ us hl => match us, hl with | [_], _ => rfl
  have F11 := fun_mk (st := s_is_within) l11 c11 k11
  have b11 := F11.binds (ps := P_is_within) fun _ _ _ _ _ _ us hl => match us, hl with | [_, _], _ => rfl
  have F12 := fun_mk (st := s_is_full) l12 c12 k12
  have b12 := F12.binds (ps := P_is_full) fun _ _ _ _ _ _ us hl => match us, hl with | [_, _], _ => rfl
  have F13 := fun_mk (st := s_wave) l13 c13 k13
  have b13 := F13.binds (ps := P_wave) fun _ _ _ _ _ _ us hl => match us, hl with | [_, _], _ => rfl
  have F14 := fun_mk (st := s_Keeper___init__) l14 c14 k14
  have b14 := F14.binds (ps := P_Keeper___init__) fun _ _ _ _ _ _ us hl => match us, hl with | [_, _], _ => rfl
  have F15 := fun_mk (st := s_Keeper_come) l15 c15 k15
  have b15 := F15.binds (ps := P_Keeper_come) fun _ _ _ _ _ _ us hl => match us, hl with | [_, _, _], _ => rfl
  have F16 := fun_mk (st := s_Keeper__counts_of) l16 c16 k16
  have b16 := F16.binds (ps := P_Keeper__counts_of) fun _ _ _ _ _ _ us hl => match us, hl with | [_, _], _ => rfl
  have F17 := fun_mk (st := s_Keeper_table) l17 c17 k17
  have b17 := F17.binds (ps := P_Keeper_table) fun _ _ _ _ _ _ us hl => match us, hl with | [_], _ => rfl
  have F18 := fun_mk (st := s_Keeper_beat) l18 c18 k18
  have b18 := F18.binds (ps := P_Keeper_beat) fun _ _ _ _ _ _ us hl => match us, hl with | [_], _ => rfl
  have F19 := fun_mk (st := s_Keeper_beats) l19 c19 k19
  have b19 := F19.binds (ps := P_Keeper_beats) fun _ _ _ _ _ _ us hl => match us, hl with | [_], _ => rfl
  have F20 := fun_mk (st := s_Keeper_waiting) l20 c20 k20
  have b20 := F20.binds (ps := P_Keeper_waiting) fun _ _ _ _ _ _ us hl => match us, hl with | [_, _, _], _ => rfl
  have F21 := fun_mk (st := s_latest) l21 c21 k21
  have b21 := F21.binds (ps := P_latest) fun _ _ _ _ _ _ us hl => match us, hl with | [_, _, _], _ => rfl
  have F22 := fun_mk (st := s_u_law_pull) l22 c22 k22
  have b22 := F22.binds (ps := P_u_law_pull) fun _ _ _ _ _ _ us hl => match us, hl with | [_, _], _ => rfl
  have F23 := fun_mk (st := s_u_law_taken) l23 c23 k23
  have b23 := F23.binds (ps := P_u_law_taken) fun _ _ _ _ _ _ us hl => match us, hl with | [_, _, _, _], _ => rfl
  have F24 := fun_mk (st := s_law) l24 c24 k24
  have b24 := F24.binds (ps := P_law) fun _ _ _ _ _ _ us hl => match us, hl with | [_], _ => rfl
  exact ⟨_, fun s v => .of_eq rfl, fun base _ _ => Main base ⟨F0, b0, PySem.W.mg_of X G a0, F1, b1, PySem.W.mg_of X G a1, F2, b2, PySem.W.mg_of X G a2, F3, b3, PySem.W.mg_of X G a3, F4, b4, PySem.W.mg_of X G a4, F5, b5, PySem.W.mg_of X G a5, F6, b6, PySem.W.mg_of X G a6, F7, b7, PySem.W.mg_of X G a7, F8, b8, PySem.W.mg_of X G a8, F9, b9, PySem.W.mg_of X G a9, F10, b10, PySem.W.mg_of X G a10, F11, b11, PySem.W.mg_of X G a11, F12, b12, PySem.W.mg_of X G a12, F13, b13, PySem.W.mg_of X G a13, F14, b14, F15, b15, F16, b16, F17, b17, F18, b18, F19, b19, F20, b20, F21, b21, PySem.W.mg_of X G a21, F22, b22, PySem.W.mg_of X G a22, F23, b23, PySem.W.mg_of X G a23, F24, b24, PySem.W.mg_of X G a24, ⟨pg0, hd0, po0, sa0⟩, PySem.W.mg_of X G aC0, ⟨mk0, a14, i14, kc0⟩, ⟨a15, i15, k15⟩, ⟨a18, i18, k18⟩, ⟨a19, i19, k19⟩, ⟨a17, i17, k17⟩, ⟨a16, i16, k16⟩, ⟨a20, i20, k20⟩, na0_0, na0_1, na0_2, na0_3, PySem.W.mg_of X G n0, PySem.W.mg_of X G n1, PySem.W.mg_none_of X G z0, PySem.W.mg_none_of X G z1, PySem.W.mg_none_of X G z2, PySem.W.mg_none_of X G z3, PySem.W.mg_none_of X G z4, PySem.W.mg_none_of X G z5, PySem.W.mg_none_of X G z6, PySem.W.mg_none_of X G z7, PySem.W.mg_none_of X G z8, PySem.W.mg_none_of X G z9, PySem.W.mg_none_of X G z10, PySem.W.mg_none_of X G z11, PySem.W.mg_none_of X G z12⟩⟩
end Tx
open PySem PySem.W PyProof.Rows
set_option maxRecDepth 100000 in
set_option maxHeartbeats 0 in
theorem PySem.Challenge.cw_beatswitch_k53_whole_none_waits_long_holds : PySem.Challenge.rw_beatswitch_k53_whole_none_waits_long.Holds := by
  w_on; o_law; k_head; (case hw => w_witness2)
  k_fill
  refine L2.walk_of (l := PySem.Challenge.rw_beatswitch_k53_whole_none_waits_long) (n := 63) (k := 7) (x := "script") (CX := fun _ => L2.CX0) (sp := fun w => VL.spOf _ 1 VL.sLaw) rfl (by decide) rfl ⟨rfl, by decide, by decide⟩ (fun w h Y => PySem.W.kIn_of Y) ?F (fun _ _ _ _ hl hO hS => VL.law_sp hl hO hS) (fun _ _ _ _ _ h => h)
  case F =>
    intro w mg fa h KX G hmg
    refine' Tx.all_mk KX G hmg (fun base T => My.main T) ?aC0 ?a0 ?l0 ?c0 ?k0 ?a1 ?l1 ?c1 ?k1 ?a2 ?l2 ?c2 ?k2 ?a3 ?l3 ?c3 ?k3 ?a4 ?l4 ?c4 ?k4 ?a5 ?l5 ?c5 ?k5 ?a6 ?l6 ?c6 ?k6 ?a7 ?l7 ?c7 ?k7 ?a8 ?l8 ?c8 ?k8 ?a9 ?l9 ?c9 ?k9 ?a10 ?l10 ?c10 ?k10 ?a11 ?l11 ?c11 ?k11 ?a12 ?l12 ?c12 ?k12 ?a13 ?l13 ?c13 ?k13 ?a14 ?i14 ?l14 ?c14 ?k14 ?a15 ?i15 ?l15 ?c15 ?k15 ?a16 ?i16 ?l16 ?c16 ?k16 ?a17 ?i17 ?l17 ?c17 ?k17 ?a18 ?i18 ?l18 ?c18 ?k18 ?a19 ?i19 ?l19 ?c19 ?k19 ?a20 ?i20 ?l20 ?c20 ?k20 ?a21 ?l21 ?c21 ?k21 ?a22 ?l22 ?c22 ?k22 ?a23 ?l23 ?c23 ?k23 ?a24 ?l24 ?c24 ?k24 ?pg0 ?hd0 ?po0 ?sa0 ?mk0 ?kc0 ?na0_0 ?na0_1 ?na0_2 ?na0_3 ?n0 ?n1 ?z0 ?z1 ?z2 ?z3 ?z4 ?z5 ?z6 ?z7 ?z8 ?z9 ?z10 ?z11 ?z12
    (case aC0 => k_is)
    (case a0 => k_is)
    (case l0 => k_is)
    (case c0 => k_is)
    (case k0 => k_is)
    (case a1 => k_is)
    (case l1 => k_is)
    (case c1 => k_is)
    (case k1 => k_is)
    (case a2 => k_is)
    (case l2 => k_is)
    (case c2 => k_is)
    (case k2 => k_is)
    (case a3 => k_is)
    (case l3 => k_is)
    (case c3 => k_is)
    (case k3 => k_is)
    (case a4 => k_is)
    (case l4 => k_is)
    (case c4 => k_is)
    (case k4 => k_is)
    (case a5 => k_is)
    (case l5 => k_is)
    (case c5 => k_is)
    (case k5 => k_is)
    (case a6 => k_is)
    (case l6 => k_is)
    (case c6 => k_is)
    (case k6 => k_is)
    (case a7 => k_is)
    (case l7 => k_is)
    (case c7 => k_is)
    (case k7 => k_is)
    (case a8 => k_is)
    (case l8 => k_is)
    (case c8 => k_is)
    (case k8 => k_is)
    (case a9 => k_is)
    (case l9 => k_is)
    (case c9 => k_is)
    (case k9 => k_is)
    (case a10 => k_is)
    (case l10 => k_is)
    (case c10 => k_is)
    (case k10 => k_is)
    (case a11 => k_is)
    (case l11 => k_is)
    (case c11 => k_is)
    (case k11 => k_is)
    (case a12 => k_is)
    (case l12 => k_is)
    (case c12 => k_is)
    (case k12 => k_is)
    (case a13 => k_is)
    (case l13 => k_is)
    (case c13 => k_is)
    (case k13 => k_is)
    (case a14 => k_is)
    (case i14 => k_is)
    (case l14 => k_is)
    (case c14 => k_is)
    (case k14 => k_is)
    (case a15 => k_is)
    (case i15 => k_is)
    (case l15 => k_is)
    (case c15 => k_is)
    (case k15 => k_is)
    (case a16 => k_is)
    (case i16 => k_is)
    (case l16 => k_is)
    (case c16 => k_is)
    (case k16 => k_is)
    (case a17 => k_is)
    (case i17 => k_is)
    (case l17 => k_is)
    (case c17 => k_is)
    (case k17 => k_is)
    (case a18 => k_is)
    (case i18 => k_is)
    (case l18 => k_is)
    (case c18 => k_is)
    (case k18 => k_is)
    (case a19 => k_is)
    (case i19 => k_is)
    (case l19 => k_is)
    (case c19 => k_is)
    (case k19 => k_is)
    (case a20 => k_is)
    (case i20 => k_is)
    (case l20 => k_is)
    (case c20 => k_is)
    (case k20 => k_is)
    (case a21 => k_is)
    (case l21 => k_is)
    (case c21 => k_is)
    (case k21 => k_is)
    (case a22 => k_is)
    (case l22 => k_is)
    (case c22 => k_is)
    (case k22 => k_is)
    (case a23 => k_is)
    (case l23 => k_is)
    (case c23 => k_is)
    (case k23 => k_is)
    (case a24 => k_is)
    (case l24 => k_is)
    (case c24 => k_is)
    (case k24 => k_is)
    (case pg0 => k_is)
    (case hd0 => k_is)
    (case po0 => k_is)
    (case sa0 => k_is)
    (case mk0 => k_is)
    (case kc0 => k_is)
    (case na0_0 => k_is)
    (case na0_1 => k_is)
    (case na0_2 => k_is)
    (case na0_3 => k_is)
    (case n0 => k_is)
    (case n1 => k_is)
    (case z0 => k_is)
    (case z1 => k_is)
    (case z2 => k_is)
    (case z3 => k_is)
    (case z4 => k_is)
    (case z5 => k_is)
    (case z6 => k_is)
    (case z7 => k_is)
    (case z8 => k_is)
    (case z9 => k_is)
    (case z10 => k_is)
    (case z11 => k_is)
    (case z12 => k_is)
