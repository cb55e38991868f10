import PyProof.Rows.All
import Wide.All
import OpenK.AllK
import Wide.FinOn
import KE.GoesEnum
import HandS.ForMost
import HandS.IsInst
import HandS.Flow
import HandS.Walk
import HandS.Zip
import HandS.Style
import HandS.Defaults
import HandS.Evl
import KE.DataEq
import KE.KEqDict
import HandS.ForExc
import HandS.ExcInit
import HandS.ClsMeth
import HandS.FStr
import HandS.Steps
import HandS.ExcIs
import HandS.WordsExc
import HandS.ExcValue
import KE.KRevSl
import HandS.TupAny
import HandS.TupMul
import HandS.More
import HandS.ForDict
import KE.KSortedM
import HandS.Finally
import KE.KDictZip
import KE.KItemsList
import HandS.Iter
import HandS.Dict
import HandS.ExcField
import HandS.SetFor
import HandS.EndTab
import HandS.Nested
import HandS.ExcOwn
import HandS.TupLe
import HandS.SortRule
import KE.LtData
import KE.DatumOrd
import HandS.Conv
import HandS.DictSubView
import HandS.DictTup
import HandS.TupLen
import KE.KDictItemsList
import KE.KDictDisplayH
import PyProof.DictTable
import PyProof.NeKinds
import PySem.Challenge.RW_fieldtable_k08_instructions_and_answers
set_option Elab.async false
set_option linter.all false
set_option maxRecDepth 100000
set_option maxHeartbeats 4000000
section
set_option maxHeartbeats 0
def PySem.W.Fast.tw3771749631606767894 : Nat := 0
def PySem.W.Fast.tw8745064282944884701 : Nat := 0
def PySem.W.Fast.tw10509446239581556319 : Nat := 0
def PySem.W.Fast.tw15795087360545606231 : Nat := 0
def PySem.W.Fast.tw1350838808665095393 : Nat := 0
def PySem.W.Fast.tw4155328802604133271 : Nat := 0
def PySem.W.Fast.tw4402854143862510368 : Nat := 0
def PySem.W.Fast.tw12919518110177724656 : Nat := 0
def PySem.W.Fast.tw18074722241552684056 : Nat := 0
def PySem.W.Fast.tw16308789847057678335 : Nat := 0
def PySem.W.Fast.tw6492478757255443573 : Nat := 0
def PySem.W.Fast.tw10582674792899094526 : Nat := 0
def PySem.W.Fast.tw7486910847615346445 : Nat := 0
open PySem PySem.W PyProof.Rows
open_top Fld.head for PySem.Challenge.rw_fieldtable_k08_instructions_and_answers
end
namespace Fld
open PySem PySem.Spec PyProof.Rows L2
/-! ### a written dict whose keys are ints -/
def EntI : List DictEntry → List (Int × V) → Prop := Paired fun (e : DictEntry) (p : Int × V) => (∃ t, e.key = Value.int p.1 t) ∧ e.hash = hashInt p.1 ∧ RelV p.2 e.val
structure IDict (K : PySem.W.Frag) (d : Addr) (kvs : List (Int × V)) : Prop where
  ex : ∃ es n, K.lookup d = some ⟨.type "dict", none, .dict es n, #[]⟩ ∧ EntI es.toList kvs
  low : (d == sysModules) = false
def valI (kvs : List (Int × V)) (k : Int) : Option V := (kvs.find? fun p => p.1 == k).map (·.2)
theorem findI : ∀ {es : List DictEntry} {kvs : List (Int × V)} (k : Int), EntI es kvs → RelO (valI kvs k) ((es.find? fun e => Value.isInt k e.key).map (·.val))
  | _, _, k, .nil => True.intro
  | e :: es, p :: kvs, k, .cons h t => by
    obtain ⟨⟨u, e1⟩, e2, e3⟩ := h
    have ih := findI k t
    unfold valI
    rw [List.find?_cons, List.find?_cons, e1]
    by_cases c : p.1 = k
    · subst c
      have q : Value.isInt p.1 (Value.int p.1 u) = true := by simp [Value.isInt]
      rw [q]
      simp only [beq_self_eq_true, Option.map_some]
      exact e3
    · have q : Value.isInt k (Value.int p.1 u) = false := by simp [Value.isInt, c]
      have q2 : (p.1 == k) = false := by simp [c]
      rw [q, q2]
      exact ih
section
variable {X : Cx} {d : Addr} {kvs : List (Int × V)}
theorem IDict.map (D : IDict X.K d kvs) {h : Heap} (I : X.K.In h) : ∃ es : Array DictEntry, h.MapOf (intKind X.prog X.w) d (fun k => findBy Value.isInt es k) ∧ EntI es.toList kvs := by
  obtain ⟨es, n, l, e⟩ := D.ex
  refine ⟨es, ⟨_, es, n, I _ _ l, ⟨rfl, rfl, rfl⟩, rfl, fun x hx => ?_, fun _ => rfl⟩, e⟩
  have mem : ∀ {es : List DictEntry} {kvs : List (Int × V)}, EntI es kvs → ∀ x ∈ es, ∃ k t, x.key = Value.int k t ∧ x.hash = hashInt k := by
    intro es kvs r
    induction r with
    | nil => intro x hx; cases hx
    | cons h t ih =>
      intro x hx
      rcases List.mem_cons.mp hx with rfl | hx
      · obtain ⟨⟨u, e1⟩, e2, _⟩ := h
        exact ⟨_, u, e1, e2⟩
      · exact ih x hx
  obtain ⟨k, t, e1, e2⟩ := mem e x (Array.mem_toList_iff.mpr hx)
  exact ⟨k, by rw [e1]; exact intKind_is _ _ k t, e2⟩
theorem findE {es : Array DictEntry} (e : EntI es.toList kvs) (k : Int) : RelO (valI kvs k) (findBy Value.isInt es k) := by
  obtain ⟨l⟩ := es
  have := findI k e
  unfold findBy
  rw [List.find?_toArray]
  exact this
theorem isSome_of {a : Option V} {b : Option Value} (r : RelO a b) : b.isSome = a.isSome := by
  cases a <;> cases b <;> first | rfl | exact r.elim
/-- k in d, d a written dict with int keys -/
def rInI (d : Addr) (kvs : List (Int × V)) : R2 := fun x y H Q => ∃ k : Int, x = .int k ∧ y = .ref d ∧ Q (.bl (valI kvs k).isSome) H
theorem op_in_kdI (D : IDict X.K d kvs) : OpR X (compareOp .In) (rInI d kvs) := by
  intro pins s σ H x y v u Q I rx ry h
  obtain ⟨k, rfl, rfl, q⟩ := h
  obtain ⟨t, rfl⟩ := rx
  cases ry
  obtain ⟨es, m, e⟩ := D.map I.kIn
  refine wpAny_in_of (PySem.intKind_is X.prog X.w k t) D.low m ?_
  rw [isSome_of (findE e k)]
  exact ⟨.bl _, H, I.tok _, rfl, q⟩
/-- d[k] -/
def rIxI (d : Addr) (kvs : List (Int × V)) : R2 := fun x y H Q => ∃ (k : Int) (v : V), x = .ref d ∧ y = .int k ∧ valI kvs k = some v ∧ Q v H
theorem ix_kdI (D : IDict X.K d kvs) : IxR X (rIxI d kvs) := by
  intro value slice pins s σ H x y v u Q I rx ry h hs
  obtain ⟨k, z, rfl, rfl, hv, q⟩ := h
  cases rx
  obtain ⟨t, rfl⟩ := ry
  obtain ⟨es, m, e⟩ := D.map I.kIn
  have r := findE e k
  rw [hv] at r
  obtain ⟨u0, e0, ru⟩ := RelO.some_of r
  exact tail_any m.typeIs slot_dict_getitem.lookup (wpAny_getItem_of (PySem.intKind_is X.prog X.w k t) m e0 ⟨z, H, I.tok _, ru, q⟩) hs
end
/-! ### text * int -/
def repS (x : Str) (n : Nat) : Str := ⟨(List.replicate n x.cps.toList).flatten.toArray⟩
theorem foldl_app : ∀ (k : Nat) (xs : Array Nat) (acc : Array Nat), (List.replicate k xs).foldl (· ++ ·) acc = acc ++ (List.replicate k xs.toList).flatten.toArray
  | 0, xs, acc => by simp
  | k + 1, xs, acc => by
    rw [List.replicate_succ, List.foldl_cons, foldl_app k xs, List.replicate_succ, List.flatten_cons]
    apply Array.ext'
    simp [List.append_assoc]
theorem repS_tl (x : Str) (n : Nat) : (repS x n).cps.toList = (List.replicate n x.cps.toList).flatten := rfl
theorem op_mul_str {X : Cx} : OpR X (binaryOp .Mult) (fun x y H Q => ∃ (z : Str) (k : Int), x = .str z ∧ y = .int k ∧ 1 < k ∧ k < 1000 ∧ 0 < z.length ∧ z.length ≤ 1000 ∧ Q (.str (repS z k.toNat)) H) := by
  intro pins s σ H x y v u Q I rx ry h
  obtain ⟨z, k, rfl, rfl, h1, h2, h3, h4, q⟩ := h
  obtain ⟨t, rfl⟩ := rx
  obtain ⟨t', rfl⟩ := ry
  have hlen : (z.length == 0) = false := by simp; omega
  have hk1 : (k == 1) = false := by simp; omega
  refine PySem.P.mul_str (by
      rw [decide_eq_false (by omega), decide_eq_false (by omega)]; rfl) (fun _ _ => ?_) (fun _ _ => ?_) ?_
  · have : (1000 : Int) ≤ (2 ^ 63 - 1) / k := by
      rw [Int.le_ediv_iff_mul_le (by omega)]
      omega
    omega
  · have a1 : z.length * k.toNat ≤ 1000 * 1000 := Nat.mul_le_mul h4 (by omega)
    have a2 : ¬ (z.length * k.toNat > sizeLine) := by rw [sizeLine_eq]; omega
    show (decide _) = false
    first | exact decide_eq_false a2 | simp [a2]
  · rw [if_neg (by omega), hk1, hlen]
    simp only [Bool.or_self, Bool.false_eq_true, if_false]
    have e : (⟨(List.replicate k.toNat z.cps).foldl (· ++ ·) #[]⟩ : Str) = repS z k.toNat := by
      unfold repS
      rw [foldl_app]
      simp
    rw [e]
    refine ⟨?_, ⟨.str (repS z k.toNat), H, I.tok _, ⟨_, rfl⟩, q⟩⟩
    have a1 : z.length * k.toNat ≤ 1000 * 1000 := Nat.mul_le_mul h4 (by omega)
    have e2 : (repS z k.toNat).length = k.toNat * z.length := by
      show (List.replicate k.toNat z.cps.toList).flatten.toArray.size = _
      simp
      rfl
    rw [Nat.mul_comm] at a1
    first
      | exact decide_eq_false (by rw [e2, sizeLine_eq]; omega)
      | (rw [e2]; simp [sizeLine_eq]; omega)
      | (rw [e2, sizeLine_eq]; omega)
end Fld
namespace Fld
open PySem PySem.Spec PyProof.Rows L2
/-! ### enumerate(text) -/
/-- the signs of x, each in a new pair with its place -/
def ItS (x : Str) : It :=
  ⟨fun i H => i < x.cps.size, fun i H v H' => ∃ T c, v = .ref T ∧ H T = none ∧ H' = upd H T (.tup [.int (i : Nat), .str ⟨#[c]⟩]) ∧ x.cps[i]? = some c, fun i H => x.cps.size ≤ i⟩
theorem turn_enumS {P : Program} {w : World} {K : PySem.W.Frag} {elts : List Expr} {kk : Nat} {tpos : Pos} (x : Str) (t : Tok) (e it : Addr) :
    Turn P w K (.Tuple elts kk tpos) (ItS x) [e, it] e (fun i h => (∃ old, IsEnum h e it ((i : Nat) : Int) old) ∧ h.IsStrIter it (strIterType x) x t i ∧ e ≠ it ∧ i ≤ x.cps.size) where
  mem := by simp
  obj := fun i h st b hb => by
    obtain ⟨⟨old, he⟩, hi, _⟩ := st
    have e' : b = e ∨ b = it := by simpa using hb
    rcases e' with z | z
    · rw [z]; exact ⟨_, he, fun v q => nomatch q⟩
    · rw [z]; obtain ⟨o, ho, hc, hd⟩ := hi; exact ⟨_, ho, fun v q => by rw [hd] at q; cases q⟩
  keep := fun i h h' st k => let ⟨⟨old, he⟩, hi, hne, hl⟩ := st; ⟨⟨old, k e (by simp) _ he⟩, by obtain ⟨o, ho, hc, hd⟩ := hi; exact ⟨o, k it (by simp) o ho, hc, hd⟩, hne, hl⟩
  item := by
    intro X hP hw hK hc i pins s σ H E I hf st hg
    subst hP hw hK
    obtain ⟨⟨old, he⟩, hit, hne, hl⟩ := st
    have D := Draws.text (prog := X.prog) (w := X.w) (A := X.A.in1) (I.ok.hd hc) it x t
    have hel : e < s.heap.objs.size := Heap.lt_size he
    have hil : it < s.heap.objs.size := by obtain ⟨_, q⟩ := D.live i s.heap hit; exact Heap.lt_size q
    refine wpAny_pyNext_enum_itemC D he hit hg hne (by simp [hne]) fun u h' tk hP ho hit' hT hsz hk => ?_
    obtain ⟨c, tu, hx, rfl⟩ := hP
    refine ⟨_, rfl, wpAny_letOwnedTupleGo_enum (s := { s with heap := h', toks := tk + 1 }) ho fun h'' he' sb => ?_⟩
    have hT2 : h''.get? s.heap.objs.size = some { cls := .type "tuple", data := .seq #[.int i tk, .str ⟨#[c]⟩ tu] } := (sb.2 _ (Nat.ne_of_gt hel)).trans hT
    have new : ObjOk X.prog X.w (upd H s.heap.objs.size (.tup [.int (i : Nat), .str ⟨#[c]⟩])) h'' s.heap.objs.size (.tup [.int (i : Nat), .str ⟨#[c]⟩]) :=
      ⟨by show 2 ≤ sizeLine; decide, [.int i tk, .str ⟨#[c]⟩ tu], .cons ⟨_, rfl⟩ (.cons ⟨_, rfl⟩ .nil), ⟨_, hT2, rfl, _, rfl⟩⟩
    have I1 : Inv X pins σ (upd H s.heap.objs.size (.tup [.int (i : Nat), .str ⟨#[c]⟩])) { s with heap := h'', toks := tk + 1 } :=
      I.turnedNew (ch := [e, it]) (fun b ob hb q => (sb.2 b (fun z => hb (by simp [z]))).trans (hk b ob (fun z => hb (by simp [z])) (fun z => hb (by simp [z])) q)) hf (Nat.le_refl _) new
    refine ⟨.ref s.heap.objs.size, _, I1, rfl, ⟨_, c, rfl, I.hok.fresh (Nat.le_refl _), rfl, hx⟩, ⟨⟨.str ⟨#[c]⟩ tu, ?_⟩, D.frame _ _ _ hit' (fun b hb o q => ?_), hne, hg⟩, fun b hb => ?_⟩
    · have e1 : ((i + 1 : Nat) : Int) = (i : Int) + 1 := by omega
      rw [e1]; exact he'
    · have eb : b = it := by simpa using hb
      rw [eb] at q ⊢
      exact (sb.2 it (Ne.symm hne)).trans q
    · have hb' : b < s.heap.objs.size := by
        have e' : b = e ∨ b = it := by simpa using hb
        rcases e' with z | z
        · rw [z]; exact hel
        · rw [z]; exact hil
      rw [upd_ne (Nat.ne_of_lt hb')]
      exact (hf b hb).1
  done := by
    intro X hP hw hK hc i pins s σ H E I hf st hg
    subst hP hw hK
    obtain ⟨⟨old, he⟩, hit, hne, hl⟩ := st
    have ei : i = x.cps.size := Nat.le_antisymm hl hg
    subst ei
    have D := Draws.text (prog := X.prog) (w := X.w) (A := X.A.in1) (I.ok.hd hc) it x t
    obtain ⟨f0, f1, f2, f3, f4, f5⟩ := hf it (by simp)
    exact wpAny_pyNext_enum_endD D he hit fun h' eb => ⟨rfl, I.turned (t' := s.toks) (fun b o hb q => eb b o hb q) f0 f1 f3 f4 f5⟩
  self := fun A i s Q E st h => let ⟨⟨_, he⟩, _⟩ := st; wpAny_pyIter_enum he h
def iEnumS (ta : TA) : TI := fun σ H R => ta σ H fun vs H1 => ∃ x, vs = [.str x] ∧ R (ItS x) H1
theorem pi_enumS {X : Cx} {e : Expr} {ta : TA} {p pos tpos : Pos} {elts : List Expr} {kk : Nat} (hg : Gl X "enumerate") (hm : X.mg "enumerate" = none) (ha : PA X [e] ta) (hs : starEach [e] X.env = [(false, eval e X.env)] := by rfl) :
    PI X (.Tuple elts kk tpos) (.Call (.Name "enumerate" p) [e] [] pos) (iEnumS ta) := by
  refine ⟨fun pins s σ H R I h => ?_⟩
  refine Call_ (ld_blt I hg hm boot_enumerate (PyProof.Rows.callWith_type1 (thn (ha.run pos pins s σ H _ I h) fun us s1 ⟨vs, H1, I1, r1, q1⟩ => ?_) hs rfl))
  obtain ⟨x, ex, q⟩ := q1
  subst ex
  cases r1 with
  | cons r rr =>
    cases rr
    obtain ⟨t, rfl⟩ := r
    refine call_enumerate_str fun h' he hit hsz hk => wpAny_pyIter_enum he ?_
    have I2 : Inv X pins σ H1 { s1 with heap := h' } := I1.kept (t' := s1.toks) hk
    refine ⟨s1.heap.objs.size + 1, [s1.heap.objs.size + 1, s1.heap.objs.size], _, _, H1, rfl, I2, turn_enumS x t (s1.heap.objs.size + 1) s1.heap.objs.size, ⟨⟨.none, he⟩, hit, Nat.succ_ne_self _, Nat.zero_le _⟩, fun b hb => ?_, q⟩
    have e' : b = s1.heap.objs.size + 1 ∨ b = s1.heap.objs.size := by simpa using hb
    have hle : s1.heap.objs.size ≤ b := by
      rcases e' with z | z
      · rw [z]; exact Nat.le_add_right _ _
      · rw [z]; exact Nat.le_refl _
    exact I1.fpOk hle (I1.hok.fresh hle)
/-- the walk of it -/
theorem walk_enumS {x : Str} : Walk (ItS x) x.cps.size (fun _ => True) (fun i H v H' => ∃ T c, v = .ref T ∧ H T = none ∧ H' = upd H T (.tup [.int (i : Nat), .str ⟨#[c]⟩]) ∧ x.cps[i]? = some c) :=
  ⟨fun _ _ hi _ => hi, fun _ _ => Nat.le_refl _, fun _ _ _ _ _ _ y => y⟩
end Fld
namespace Fld
open PySem PySem.Spec PyProof.Rows L2
/-! ### the characters -/
def charCodes : List Nat := [32, 45, 46, 47, 48, 49, 50, 51, 52, 53, 54, 55, 56, 57, 58, 59, 61, 97, 98, 99, 100, 101, 102, 103, 104, 105, 106, 107, 108, 109, 110, 111, 112, 113, 114, 115, 116, 117, 118, 119, 120, 121, 122]
def chars : List (Int × V) := charCodes.map fun (c : Nat) => (((c : Nat) : Int), V.str ⟨#[c]⟩)
/-- all but p stands -/
def But (p : Addr) (H H' : Hp) : Prop := ∀ b o, b ≠ p → H b = some o → H' b = some o
theorem But.refl (p : Addr) (H : Hp) : But p H H := fun _ _ _ h => h
theorem But.trans {p : Addr} {H H1 H2 : Hp} (a : But p H H1) (b : But p H1 H2) : But p H H2 := fun c o n h => b c o n (a c o n h)
theorem But.of {p : Addr} {H H' : Hp} (s : Same H H') : But p H H' := fun c o _ h => s c o h
theorem But.set {p : Addr} {H : Hp} {o : HO} : But p H (upd H p o) := fun c u n h => by rw [upd_ne n]; exact h
theorem But.new {p q : Addr} {H : Hp} {o : HO} (h : H q = none) : But p H (upd H q o) := fun c u n e => by rw [upd_ne (ne_of_none e h)]; exact e
theorem _root_.L2.Same.new {q : Addr} {H : Hp} {o : HO} (h : H q = none) : Same H (upd H q o) := fun c u e => by rw [upd_ne (ne_of_none e h)]; exact e
theorem But.put {p q : Addr} {H H' : Hp} {o : HO} (b : But p H H') (h : H q = none) : But p H (upd H' q o) := fun u v n e => by rw [upd_ne (ne_of_none e h)]; exact b u v n e
/-- what is true of all values of the heap but p -/
theorem But.none {p q : Addr} {H H' : Hp} (b : But p H H') (n : q ≠ p) (h : H' q = Option.none) : H q = Option.none := by
  cases e : H q with
  | none => rfl
  | some o => rw [b q o n e] at h; cases h
/-! ### the pen: a list of cells, how many were taken, what is left of the last -/
structure Pen (H : Hp) (p c : Addr) (n : Nat) : Prop where
  ex : ∃ (at_ : Nat) (acc : Int) (ns : List Int), H p = some (.lst [.ref c, .int (at_ : Nat), .int acc]) ∧ H c = some (.lst (ns.map V.int)) ∧ c ≠ p ∧ ns.length ≤ 63 ∧ at_ ≤ n
theorem Pen.mono {H : Hp} {p c : Addr} {n m : Nat} (h : Pen H p c n) (l : n ≤ m) : Pen H p c m := by
  obtain ⟨a, acc, ns, h1, h2, h3, h4, h5⟩ := h.ex
  exact ⟨a, acc, ns, h1, h2, h3, h4, Nat.le_trans h5 l⟩
theorem Pen.keep {H H' : Hp} {p c : Addr} {n : Nat} (h : Pen H p c n) (k : Same H H') : Pen H' p c n := by
  obtain ⟨a, acc, ns, h1, h2, h3, h4, h5⟩ := h.ex
  exact ⟨a, acc, ns, k _ _ h1, k _ _ h2, h3, h4, h5⟩
theorem Pen.some {H : Hp} {p c : Addr} {n : Nat} (h : Pen H p c n) : (∃ xs, H p = some (.lst xs)) ∧ ∃ xs, H c = some (.lst xs) := by
  obtain ⟨a, acc, ns, h1, h2, h3, h4, h5⟩ := h.ex
  exact ⟨⟨_, h1⟩, ⟨_, h2⟩⟩
theorem Pen.ne {H : Hp} {p c q : Addr} {n : Nat} (h : Pen H p c n) (hq : H q = none) : p ≠ q := by
  obtain ⟨⟨xs, e⟩, _⟩ := h.some
  exact ne_of_none e hq
theorem Pen.nec {H : Hp} {p c q : Addr} {n : Nat} (h : Pen H p c n) (hq : H q = none) : c ≠ q := by
  obtain ⟨_, ⟨xs, e⟩⟩ := h.some
  exact ne_of_none e hq
theorem Pen.upd {H : Hp} {p c q : Addr} {n : Nat} {o : HO} (h : Pen H p c n) (h1 : p ≠ q) (h2 : c ≠ q) : Pen (upd H q o) p c n := by
  obtain ⟨a, acc, ns, e1, e2, e3, e4, e5⟩ := h.ex
  exact ⟨a, acc, ns, by rw [upd_ne h1]; exact e1, by rw [upd_ne h2]; exact e2, e3, e4, e5⟩
/-- a draw: the pen may turn, all else stands -/
structure Drew (p c : Addr) (H H' : Hp) (n : Nat) : Prop where
  pen : Pen H' p c n
  but : But p H H'
theorem Drew.trans {p c : Addr} {H H1 H2 : Hp} {n m : Nat} (a : Drew p c H H1 n) (b : Drew p c H1 H2 m) : Drew p c H H2 m := ⟨b.pen, a.but.trans b.but⟩
theorem Drew.keep {p c : Addr} {H H1 H2 : Hp} {n : Nat} (a : Drew p c H H1 n) (s : Same H1 H2) : Drew p c H H2 n := ⟨a.pen.keep s, a.but.trans (But.of s)⟩
theorem Drew.mono {p c : Addr} {H H1 : Hp} {n m : Nat} (a : Drew p c H H1 n) (l : n ≤ m) : Drew p c H H1 m := ⟨a.pen.mono l, a.but⟩
theorem Drew.pre {p c : Addr} {H H1 H2 : Hp} {n : Nat} (s : Same H H1) (a : Drew p c H1 H2 n) : Drew p c H H2 n := ⟨a.pen, (But.of s).trans a.but⟩
end Fld
namespace Fld
open PySem PySem.Spec PyProof.Rows L2
/-! ### what kind of value -/
inductive Kind (K : PySem.W.Frag) (H : Hp) : V → String → Prop where
  | non : Kind K H .non "NoneType"
  | bl (b : Bool) : Kind K H (.bl b) "bool"
  | int (i : Int) : Kind K H (.int i) "int"
  | str (x : Str) : Kind K H (.str x) "str"
  | flt (x : UInt64) : Kind K H (.flt x) "float"
  | lst {a : Addr} {xs : List V} (h : SqL K H a xs) : Kind K H (.ref a) "list"
  | tup {a : Addr} {xs : List V} (h : SqT K H a xs) : Kind K H (.ref a) "tuple"
  | dK {a : Addr} {kvs : List (Key × V)} (h : H a = some (.dK kvs)) : Kind K H (.ref a) "dict"
theorem tyL {K : PySem.W.Frag} {H : Hp} {a : Addr} {xs : List V} (h : SqL K H a xs) : TyX K H (.ref a) (.type "list") := by
  rcases h with (h | ⟨o, h⟩) | ⟨o, its, n, h1, h2, _⟩
  · exact .base (.lst h)
  · exact .base (.frz h)
  · exact .kList h1 h2
theorem tyT {K : PySem.W.Frag} {H : Hp} {a : Addr} {xs : List V} (h : SqT K H a xs) : TyX K H (.ref a) (.type "tuple") := by
  rcases h with (h | ⟨o, h⟩) | ⟨o, its, n, h1, h2, _⟩
  · exact .base (.tup h)
  · exact .fTuple h
  · exact .kTuple h1 h2
theorem Kind.ty {K : PySem.W.Frag} {H : Hp} {v : V} {t : String} (k : Kind K H v t) : TyX K H v (.type t) := by
  cases k with
  | non => exact .base .non
  | bl b => exact .base (.bl b)
  | int i => exact .base (.int i)
  | str x => exact .base (.str x)
  | flt x => exact .base (.flt x)
  | lst h => exact tyL h
  | tup h => exact tyT h
  | dK h => exact .base (.dK h)
def subT (a b : String) : Bool := a == b || (a == "bool" && b == "int")
def clsNames : List String := ["int", "bool", "str", "list", "tuple", "dict"]
theorem kitAll : (["NoneType", "bool", "int", "str", "float", "list", "tuple", "dict"].all fun a => clsNames.all fun b => kitB a b == some (subT a b)) = true := by decide +kernel
theorem Kind.mem {K : PySem.W.Frag} {H : Hp} {v : V} {t : String} (k : Kind K H v t) : t ∈ ["NoneType", "bool", "int", "str", "float", "list", "tuple", "dict"] := by
  cases k <;> decide
theorem Kind.kit {K : PySem.W.Frag} {H : Hp} {v : V} {t b : String} (k : Kind K H v t) (hb : clsNames.contains b = true := by decide) : PySem.W.kitOne K (.type t) (.type b) = some (subT t b) := by
  have h := List.all_eq_true.mp kitAll t k.mem
  have h2 := List.all_eq_true.mp h b (List.contains_iff_mem.mp hb)
  exact kit_ty (eq_of_beq h2)
theorem Kind.kit2 {K : PySem.W.Frag} {H : Hp} {v : V} {t b c : String} (k : Kind K H v t) (hb : clsNames.contains b = true := by decide) (hc : clsNames.contains c = true := by decide) :
    PySem.W.kitAny K (.type t) [.type b, .type c] = some (subT t b || subT t c) := by
  refine kitAny_cons (k.kit hb) (fun e => ?_) fun e => ?_
  · rw [e]
    refine kitAny_cons (k.kit hc) (fun e2 => ?_) fun e2 => ?_
    · rw [e2]; exact kitAny_nil
    · rw [e2]; rfl
  · rw [e]; rfl
theorem Kind.keep {K : PySem.W.Frag} {H H' : Hp} {v : V} {t : String} (k : Kind K H v t) (s : Same H H') : Kind K H' v t := by
  cases k with
  | non => exact .non
  | bl b => exact .bl b
  | int i => exact .int i
  | str x => exact .str x
  | flt x => exact .flt x
  | lst h => exact .lst (s.seq h)
  | @tup a xs h =>
    refine .tup (xs := xs) ?_
    rcases h with (h | ⟨o, h⟩) | h
    · exact .inl (.inl (s _ _ h))
    · exact .inl (.inr ⟨o, s _ _ h⟩)
    · exact .inr h
  | dK h => exact .dK (s _ _ h)
theorem ifb {c : Bool} {A B : Prop} (h1 : c = true → A) (h2 : c = false → B) : if c = true then A else B := by
  cases c
  · rw [if_neg (by decide)]; exact h2 rfl
  · rw [if_pos rfl]; exact h1 rfl
theorem Q_bl {Q : VK} {a b : Bool} {H : Hp} (h : Q (.bl a) H) (e : a = b) : Q (.bl b) H := e ▸ h
theorem Q_int {Q : VK} {a b : Int} {H : Hp} (h : Q (.int a) H) (e : a = b) : Q (.int b) H := e ▸ h
/-! ### is_between -/
def btw : V → Int → Int → Bool
  | .int i, a, b => decide (a ≤ i) && decide (i ≤ b)
  | _, _, _ => false
def sp_is_between (K : PySem.W.Frag) : Sp := fun vs H Q _ => ∃ (v : V) (t : String) (a b : Int), vs = [v, .int a, .int b] ∧ Kind K H v t ∧ Q (.bl (btw v a b)) H
end Fld
namespace Fld
open PySem PySem.Spec PyProof.Rows L2
/-! ### comprehensions -/
section
variable {J : It} {n : Nat} {G : Hp → Prop} {Y : Nat → Hp → V → Hp → Prop} {g : TG} {tt : TT} {te : TE} {vs : List Nat} {σ : L2.St} {H1 : Hp} {D : Addr} {Qd : Hp → Prop}
theorem yesI {σ : L2.St} {H : Hp} {A B : Hp → Prop} (h : A H) : tYes σ H (fun b H3 => if b = true then A H3 else B H3) := by
  show (if true = true then A H else B H)
  rw [if_pos rfl]; exact h
/-- by an invariant of the turn, the items so far, the heap -/
theorem lc_gen (w : Walk J n G Y) (I : Nat → List V → Hp → Prop) (hz : n ≤ 10000000) (h0 : I 0 [] (upd H1 D (.lst []))) (hG : ∀ i ys H, I i ys H → G H)
    (hs : ∀ i ys x H' H'' (Q' : VK) (Z : Hp → Prop), i < n → ys.length = i → H' D = some (.lst ys) → I i ys H' → Y i H' x H'' → (∀ y H4, H4 D = some (.lst ys) → I (i + 1) (ys ++ [y]) (upd H4 D (.lst (ys ++ [y]))) → Q' y H4) →
      g x (wipe σ vs) H'' fun σ2 H2 => wipe σ2 vs = wipe σ vs ∧ tYes σ2 H2 fun b H3 => if b = true then te σ2 H3 Q' else Z H3)
    (hd : ∀ ys H', ys.length = n → H' D = some (.lst ys) → I n ys H' → Qd H') :
    ∃ W : Nat → Nat → Hp → Prop, (∃ m, W 0 m (upd H1 D (.lst []))) ∧ ∀ i m H, W i m H →
      (J.stop i H ∧ Qd H) ∨ (J.go i H ∧ ∃ Nx : Hp → Prop, (∀ H', Nx H' → ∃ m', m' < m ∧ W (i + 1) m' H') ∧ ∀ x H', J.yld i H x H' → g x (wipe σ vs) H' fun σ2 H2 => wipe σ2 vs = wipe σ vs ∧ tYes σ2 H2 fun b H3 =>
        if b = true then te σ2 H3 fun y H4 => ∃ acc, H4 D = some (.lst acc) ∧ acc.length < sizeLine ∧ Nx (upd H4 D (.lst (acc ++ [y]))) else Nx H3) := by
  refine lc_it w (fun i H => ∃ ys : List V, ys.length = i ∧ H D = some (.lst ys) ∧ I i ys H) ⟨[], rfl, upd_same, h0⟩ (fun i H _ ⟨ys, _, _, h⟩ => hG i ys H h) ?_ ?_
  · rintro i x H H' hi ⟨ys, hl, hD, h⟩ y
    refine hs i ys x H H' _ _ hi hl hD h y fun z H4 e4 h4 => ?_
    refine ⟨ys, e4, ?_, ys ++ [z], by simp [hl], upd_same, h4⟩
    rw [sizeLine_eq]
    omega
  · rintro H ⟨ys, hl, hD, h⟩
    exact hd ys H hl hD h
/-- each item its value, all that stood stands -/
theorem lc_map (w : Walk J n G Y) (f : Nat → V) (hz : n ≤ 10000000) (hD : H1 D = none) (hG : ∀ H, Same H1 H → G H)
    (hs : ∀ i x H' H'' (Q' : VK) (Z : Hp → Prop), i < n → Same H1 H' → Y i H' x H'' → (∀ H4, Same H' H4 → Q' (f i) H4) →
      g x (wipe σ vs) H'' fun σ2 H2 => wipe σ2 vs = wipe σ vs ∧ tYes σ2 H2 fun b H3 => if b = true then te σ2 H3 Q' else Z H3)
    (hd : ∀ H', Same H1 H' → H' D = some (.lst ((List.range n).map f)) → Qd H') :
    ∃ W : Nat → Nat → Hp → Prop, (∃ m, W 0 m (upd H1 D (.lst []))) ∧ ∀ i m H, W i m H →
      (J.stop i H ∧ Qd H) ∨ (J.go i H ∧ ∃ Nx : Hp → Prop, (∀ H', Nx H' → ∃ m', m' < m ∧ W (i + 1) m' H') ∧ ∀ x H', J.yld i H x H' → g x (wipe σ vs) H' fun σ2 H2 => wipe σ2 vs = wipe σ vs ∧ tYes σ2 H2 fun b H3 =>
        if b = true then te σ2 H3 fun y H4 => ∃ acc, H4 D = some (.lst acc) ∧ acc.length < sizeLine ∧ Nx (upd H4 D (.lst (acc ++ [y]))) else Nx H3) := by
  have up : ∀ H o, Same H1 H → Same H1 (upd H D o) := fun H o s b u e => by rw [upd_ne (ne_of_none e hD)]; exact s b u e
  refine lc_gen w (fun i ys H => Same H1 H ∧ ys = (List.range i).map f) hz ⟨up _ _ (Same.refl _), rfl⟩ (fun i ys H h => hG H h.1) ?_ ?_
  · rintro i ys x H H' Q' Z hi hl hDl ⟨s, rfl⟩ y q
    refine hs i x H H' Q' Z hi s y fun H4 s4 => q (f i) H4 (s4 D _ hDl) ⟨up _ _ (s.trans s4), ?_⟩
    rw [List.range_succ, List.map_append]
    rfl
  · rintro ys H hl hDl ⟨s, rfl⟩
    exact hd H s hDl
end
/-- the items of a list by their places -/
theorem range_map {α β : Type} (l : List α) (f : α → β) (d : α) : (List.range l.length).map (fun i => f (l.getD i d)) = l.map f := by
  apply List.ext_getElem?
  intro i
  by_cases h : i < l.length
  · simp [h]
  · have h2 : l.length ≤ i := Nat.not_lt.mp h
    simp [h2]
theorem getD_of {α : Type} {l : List α} {i : Nat} {c : α} (d : α) (h : l[i]? = some c) : l.getD i d = c := by
  rw [List.getD_eq_getElem?_getD, h]; rfl
theorem cps_at {x : Str} {i c : Nat} (h : x.cps[i]? = some c) : x.cps.toList[i]? = some c := by
  rw [Array.getElem?_toList]; exact h
/-! ### texts and numbers -/
def isChar (c : Nat) : Bool := charCodes.contains c
theorem valI_chars (c : Nat) : (valI chars (c : Int)) = if isChar c then some (.str ⟨#[c]⟩) else none := by
  unfold valI chars isChar
  have h : ∀ l : List Nat, ((l.map fun (c : Nat) => (((c : Nat) : Int), V.str ⟨#[c]⟩)).find? fun p => p.1 == (c : Int)).map (·.2) = if l.contains c then some (V.str ⟨#[c]⟩) else none := by
    intro l
    induction l with
    | nil => rfl
    | cons a r ih =>
      rw [List.map_cons, List.find?_cons, List.contains_cons]
      by_cases e : a = c
      · subst e; simp
      · have e1 : (((a : Nat) : Int) == (c : Int)) = false := by
          rw [beq_eq_false_iff_ne]; intro q; exact e (by omega)
        have e2 : (c == a) = false := by rw [beq_eq_false_iff_ne]; exact fun q => e q.symm
        simp only [e1, e2, Bool.false_or]
        exact ih
  exact h charCodes
def txt : V → Int → Int → Bool
  | .str x, a, b => decide (a ≤ (x.length : Int)) && decide ((x.length : Int) ≤ b) && x.cps.toList.all isChar
  | _, _, _ => false
def sp_prefix_bits : Sp := fun vs H Q _ => ∃ (b : Nat), vs = [.int (b : Nat)] ∧ b ≤ 64 ∧ Q (.int (2 ^ b - 1)) H
theorem len100 {n : Nat} (h : n ≤ 100000) : n ≤ sizeLine := by rw [sizeLine_eq]; omega
theorem str_len (x : Str) : x.length = x.cps.toList.length := rfl
end Fld
namespace Fld
open PySem PySem.Spec PyProof.Rows L2
theorem ifF {c : Bool} {A B : Prop} (h : c = false) (b : B) : if c = true then A else B := by
  rw [h, if_neg (by decide)]; exact b
theorem ifT {c : Bool} {A B : Prop} (h : c = true) (a : A) : if c = true then A else B := by
  rw [h, if_pos rfl]; exact a
theorem _root_.L2.Same.at {H H' : Hp} {p : Addr} {o : HO} (hp : H p = none) : Same H (upd H p o) := Same.new hp
theorem _root_.L2.Same.put {H H' : Hp} {p : Addr} {o : HO} (s : Same H H') (hp : H p = none) : Same H (upd H' p o) := fun b u e => by rw [upd_ne (ne_of_none e hp)]; exact s b u e
theorem _root_.L2.Same.tup {K : PySem.W.Frag} {H H' : Hp} {a : Addr} {xs : List V} (s : Same H H') (h : SqT K H a xs) : SqT K H' a xs := by
  rcases h with (h | ⟨o, h⟩) | h
  · exact .inl (.inl (s _ _ h))
  · exact .inl (.inr ⟨o, s _ _ h⟩)
  · exact .inr h
theorem btw_t {n a b : Int} (h1 : a ≤ n) (h2 : n ≤ b) : btw (.int n) a b = true := by
  show (decide (a ≤ n) && decide (n ≤ b)) = true
  rw [decide_eq_true h1, decide_eq_true h2]; rfl
/-! ### the octets of a number -/
def restOct (r : Nat) : List Int := if r < 128 then [(r : Int)] else (128 + (r : Int) % 128) :: restOct (r / 128)
termination_by r
theorem restOct_lt {r : Nat} (h : r < 128) : restOct r = [(r : Int)] := by rw [restOct, if_pos h]
theorem restOct_ge {r : Nat} (h : ¬ r < 128) : restOct r = (128 + (r : Int) % 128) :: restOct (r / 128) := by rw [restOct, if_neg h]
theorem restOct_len (r : Nat) : (restOct r).length ≤ r + 1 := by
  induction r using Nat.strongRecOn with
  | _ r ih =>
    by_cases h : r < 128
    · rw [restOct_lt h]; simp
    · rw [restOct_ge h, List.length_cons]
      have := ih (r / 128) (by omega)
      omega
def numOct (n b m : Nat) : List Int := if n < 2 ^ b - 1 then [((m + n : Nat) : Int)] else ((m + (2 ^ b - 1) : Nat) : Int) :: restOct (n - (2 ^ b - 1))
theorem numOct_len (n b m : Nat) : (numOct n b m).length ≤ n + 2 := by
  unfold numOct
  split
  · simp
  · have := restOct_len (n - (2 ^ b - 1))
    rw [List.length_cons]
    omega
theorem pow_pos2 (b : Nat) : 0 < 2 ^ b := Nat.pow_pos (by decide)
theorem bits_cast (b : Nat) : ((2 : Int) ^ b - 1) = ((2 ^ b - 1 : Nat) : Int) := by
  have h := pow_pos2 b
  have e : ((2 : Int) ^ b) = ((2 ^ b : Nat) : Int) := by norm_cast
  rw [e]
  omega
theorem pow_le8 {b : Nat} (h : b ≤ 8) : 2 ^ b ≤ 256 := Nat.le_trans (Nat.pow_le_pow_right (by decide) h) (by decide)
/-- a new list of ints is handed back -/
def RetInts (ns : List Int) (H : Hp) (Q : VK) : Prop := ∀ p H', H p = none → Same H H' → H' p = some (.lst (ns.map V.int)) → Q (.ref p) H'
def sp_law_number_octets : Sp := fun vs H Q _ => ∃ n b m : Nat, vs = [.int (n : Nat), .int (b : Nat), .int (m : Nat)] ∧ n ≤ 9999 ∧ b ≤ 8 ∧ RetInts (numOct n b m) H Q
def codeOf (c : Nat) : Int := if isChar c then (c : Int) else 0
def sp_law_code : Sp := fun vs H Q _ => ∃ c : Nat, vs = [.str ⟨#[c]⟩] ∧ ∀ H', Same H H' → Q (.int (codeOf c)) H'
def sp_law_text_octets : Sp := fun vs H Q _ => ∃ (x : Str) (b m : Nat), vs = [.str x, .int (b : Nat), .int (m : Nat)] ∧ x.length ≤ 9999 ∧ b ≤ 8 ∧ RetInts (numOct x.length b m ++ x.cps.toList.map codeOf) H Q
theorem txt_len {x : Str} (h : txt (.str x) 0 40 = true) : x.length ≤ 40 := by
  have h' : (decide ((0 : Int) ≤ (x.length : Int)) && decide ((x.length : Int) ≤ 40) && x.cps.toList.all isChar) = true := h
  simp only [Bool.and_eq_true, decide_eq_true_eq] at h'
  omega
theorem txt_all {x : Str} {a b : Int} (h : txt (.str x) a b = true) : x.cps.toList.all isChar = true := by
  have h' : (decide (a ≤ (x.length : Int)) && decide ((x.length : Int) ≤ b) && x.cps.toList.all isChar) = true := h
  rw [Bool.and_eq_true] at h'
  exact h'.2
def codeRows : List (List Nat) := [(" " : Str).cps.toList, ("-./0123456789:;" : Str).cps.toList, ("=" : Str).cps.toList, ("abcdefghijklmnopqrstuvwxyz" : Str).cps.toList]
theorem codeRows_all : codeRows.flatten = charCodes := by decide +kernel
theorem code_yes {c : Nat} (i : Nat) {r : List Nat} (h : codeRows[i]? = some r) (hm : c ∈ r) : isChar c = true := by
  unfold isChar
  rw [← codeRows_all]
  exact List.contains_iff_mem.mpr (List.mem_flatten.mpr ⟨r, List.mem_of_getElem? h, hm⟩)
theorem code_no {c : Nat} (i : Nat) {r : List Nat} (h : codeRows[i]? = some r) (hc : c ∉ (codeRows.take i).flatten) (hm : c ∉ r) : c ∉ (codeRows.take (i + 1)).flatten := by
  rw [List.take_add_one, h, List.flatten_append]
  intro z
  rcases List.mem_append.mp z with z | z
  · exact hc z
  · exact hm (by simpa using z)
theorem code_none {c : Nat} (hc : c ∉ (codeRows.take 4).flatten) : isChar c = false := by
  unfold isChar
  rw [← codeRows_all]
  have e : codeRows.take 4 = codeRows := rfl
  rw [e] at hc
  cases h : codeRows.flatten.contains c
  · rfl
  · exact absurd (List.contains_iff_mem.mp h) hc
theorem row_ok {x : Str} {first : Nat} (h : ((List.range x.cps.size).all fun i => x.cps.toList.getD i 0 == first + i) = true) : ∀ i r, x.cps[i]? = some r → r = first + i := by
  intro i r hr
  have hi : i < x.cps.size := (Array.getElem?_eq_some_iff.mp hr).1
  have e := eq_of_beq (List.all_eq_true.mp h i (List.mem_range.mpr hi))
  rw [getD_of 0 (cps_at hr)] at e
  exact e
theorem codes_chars {x : Str} (h : x.cps.toList.all isChar = true) : x.cps.toList.map codeOf = x.cps.toList.map fun (c : Nat) => (c : Int) := by
  apply List.map_congr_left
  intro c hc
  have := List.all_eq_true.mp h c hc
  unfold codeOf
  rw [if_pos this]
end Fld
namespace Fld
open PySem PySem.Spec PyProof.Rows L2
theorem at_ofN {α : Type} {xs : List α} {z : Int} {j : Nat} {v : α} (e : z = (j : Int)) (h : xs[j]? = some v) : atI xs z = some v := by
  rw [e]; exact atI_nat h
/-! ### slices by places -/
theorem cut_to (xs : List V) (k : Nat) : cutV xs none (some (k : Int)) = xs.take k := by
  unfold cutV
  rw [HT.sIx_none, HT.sIx_nat, List.drop_zero, Nat.sub_zero]
  by_cases h : k ≤ xs.length
  · rw [Nat.min_eq_left h]
  · rw [Nat.min_eq_right (by omega), List.take_of_length_le (Nat.le_refl _), List.take_of_length_le (by omega)]
theorem cut_mid (xs : List V) (a b : Nat) : cutV xs (some (a : Int)) (some (b : Int)) = (xs.drop a).take (b - a) := by
  unfold cutV
  rw [HT.sIx_nat, HT.sIx_nat]
  by_cases h : a ≤ xs.length
  · have e1 : min a xs.length = a := by omega
    rw [e1]
    by_cases h2 : b ≤ xs.length
    · have e2 : min b xs.length = b := by omega
      rw [e2]
    · rw [List.take_of_length_le (by rw [List.length_drop]; omega), List.take_of_length_le (by rw [List.length_drop]; omega)]
  · have e1 : min a xs.length = xs.length := by omega
    rw [e1, List.drop_eq_nil_of_le (Nat.le_refl _), List.drop_eq_nil_of_le (by omega), List.take_nil, List.take_nil]
theorem cut_from (xs : List V) (a : Nat) : cutV xs (some (a : Int)) none = xs.drop a := by
  unfold cutV
  rw [HT.sIx_nat, HT.sIx_none]
  by_cases h : a ≤ xs.length
  · rw [Nat.min_eq_left h, List.take_of_length_le (by rw [List.length_drop]; omega)]
  · rw [Nat.min_eq_right (by omega), List.drop_eq_nil_of_le (Nat.le_refl _), List.drop_eq_nil_of_le (by omega), List.take_nil]
/-! ### the spread -/
def primes : List Int := [2147483629, 2147483587, 2147483579, 2147483563, 2147483549, 2147483543, 2147483497, 2147483489, 2147483477, 2147483423, 2147483399, 2147483353, 2147483323]
theorem primes_at {k : Int} (h0 : 0 ≤ k) (h : k < 13) : ∃ r : Int, atI (primes.map V.int) k = some (.int r) ∧ 0 < r ∧ r < 2147483648 := by
  have hk : k.toNat < 13 := by omega
  have ek : k = ((k.toNat : Nat) : Int) := by omega
  have hall : ((List.range 13).all fun i => (primes[i]?).any fun r => decide (0 < r) && decide (r < 2147483648)) = true := by decide
  have h1 := List.all_eq_true.mp hall k.toNat (List.mem_range.mpr hk)
  cases e : primes[k.toNat]? with
  | none => rw [e] at h1; cases h1
  | some r =>
    rw [e] at h1
    have h2 : (decide (0 < r) && decide (r < 2147483648)) = true := h1
    rw [Bool.and_eq_true, decide_eq_true_eq, decide_eq_true_eq] at h2
    refine ⟨r, ?_, h2.1, h2.2⟩
    rw [ek]
    exact atI_nat (by rw [List.getElem?_map, e]; rfl)
theorem pow_small {i : Int} (h0 : 0 ≤ i) (h : i < 10 ^ 18) : i.natAbs < 2 ^ 64 := by
  have : (10 : Int) ^ 18 < 2 ^ 63 := by decide
  have e : (2 : Nat) ^ 64 = 18446744073709551616 := by decide
  have e2 : (10 : Int) ^ 18 = 1000000000000000000 := by decide
  omega
theorem mul_bd {a b A B : Int} (h1 : 0 ≤ a) (h2 : a ≤ A) (h3 : 0 ≤ b) (h4 : b ≤ B) : 0 ≤ a * b ∧ a * b ≤ A * B :=
  ⟨Int.mul_nonneg h1 h3, Int.mul_le_mul h2 h4 h3 (Int.le_trans h1 h2)⟩
theorem mul64 {a b : Int} (h1 : 0 ≤ a) (h2 : a < 10 ^ 18) : CMul a b := by
  have e : (2 : Int) ^ 64 = 18446744073709551616 := by decide
  have e2 : (10 : Int) ^ 18 = 1000000000000000000 := by decide
  refine .inl ⟨?_, ?_⟩ <;> omega
def sp_law_spread : Sp := fun vs H Q _ => ∃ (cell : Int) (a : Nat), vs = [.int cell, .int (a : Nat)] ∧ a ≤ 1000000 ∧ ∀ (r : Int) H', Same H H' → Q (.int r) H'
def sp_law_open (K : PySem.W.Frag) : Sp := fun vs H Q _ => ∃ (a : Addr) (ns : List Int), vs = [.ref a] ∧ SqL K H a (ns.map V.int) ∧ ns.length ≤ 63 ∧ ∀ p c H', H p = none → Same H H' → Pen H' p c 0 → Q (.ref p) H'
def sp_law_take : Sp := fun vs H Q _ => ∃ (p c : Addr) (n : Nat) (k : Int), vs = [.ref p, .int k] ∧ Pen H p c n ∧ 0 < k ∧ k < 1073741824 ∧ n ≤ 900000 ∧ ∀ (r : Int) H', 0 ≤ r → r < k → Drew p c H H' (n + 1) → Q (.int r) H'
/-- one of a list's items, whatever they are -/
def sp_law_one_of (K : PySem.W.Frag) : Sp := fun vs H Q _ => ∃ (p c a : Addr) (n : Nat) (xs : List V), vs = [.ref p, .ref a] ∧ Pen H p c n ∧ SqL K H a xs ∧ a ≠ p ∧ xs ≠ [] ∧ xs.length ≤ 1000 ∧ n ≤ 900000 ∧ ∀ (x : V) H', x ∈ xs → Drew p c H H' (n + 1) → Q x H'
def signs : Str := " -./0123456789:;=abcdefghijklmnopqrstuvwxyz"
def sp_law_signs : Sp := fun vs H Q _ => vs = [] ∧ Q (.str signs) H
theorem signs_cps : signs.cps.toList = charCodes := by decide +kernel
theorem But.seq {K : PySem.W.Frag} {p : Addr} {H H' : Hp} {a : Addr} {xs : List V} (b : But p H H') (n : a ≠ p) (h : SqL K H a xs) : SqL K H' a xs := by
  rcases h with (h | ⟨o, h⟩) | h
  · exact .inl (.inl (b _ _ n h))
  · exact .inl (.inr ⟨o, b _ _ n h⟩)
  · exact .inr h
end Fld
namespace Fld
open PySem PySem.Spec PyProof.Rows L2
def sp_law_draw_text : Sp := fun vs H Q _ => ∃ (p c : Addr) (n a b : Nat), vs = [.ref p, .int (a : Nat), .int (b : Nat)] ∧ Pen H p c n ∧ n ≤ 800000 ∧ a ≤ 1 ∧ a ≤ b ∧ b ≤ 40 ∧ ∀ (x : Str) H', txt (.str x) a b = true → Drew p c H H' (n + 50) → Q (.str x) H'
def sp_law_draw_number : Sp := fun vs H Q _ => ∃ (p c : Addr) (n : Nat), vs = [.ref p] ∧ Pen H p c n ∧ n ≤ 800000 ∧ ∀ (z : Nat) H', z ≤ 9999 → Drew p c H H' (n + 10) → Q (.int (z : Nat)) H'
theorem txt_of {x : Str} {a b : Int} (h1 : a ≤ (x.length : Int)) (h2 : (x.length : Int) ≤ b) (h3 : x.cps.toList.all isChar = true) : txt (.str x) a b = true := by
  show (decide (a ≤ (x.length : Int)) && decide ((x.length : Int) ≤ b) && x.cps.toList.all isChar) = true
  rw [decide_eq_true h1, decide_eq_true h2, h3]; rfl
/-- a text of one sign after another -/
theorem join_signs (cs : List Nat) : Txt.join ⟨#[]⟩ (cs.map fun c => (⟨#[c]⟩ : Str)) = ⟨cs.toArray⟩ := by
  rw [TL.join_eq]
  apply TL.ext_tl
  rw [TL.tl_join]
  have h : ∀ l : List Nat, TL.joinL (TL.tl (⟨#[]⟩ : Str)) ((l.map fun c => (⟨#[c]⟩ : Str)).map TL.tl) = l := by
    intro l
    induction l with
    | nil => rfl
    | cons a r ih =>
      cases r with
      | nil => rfl
      | cons b r' =>
        show [a] ++ ([] ++ TL.joinL [] _) = a :: b :: r'
        exact congrArg (a :: ·) ih
  rw [h]
/-- the first signs of a word repeated -/
theorem rep_all {z : Str} {n : Nat} (h : z.cps.toList.all isChar = true) : (repS z n).cps.toList.all isChar = true := by
  rw [repS_tl]
  rw [List.all_eq_true]
  intro c hc
  obtain ⟨l, hl, hcl⟩ := List.mem_flatten.mp hc
  rw [List.mem_replicate] at hl
  rw [hl.2] at hcl
  exact List.all_eq_true.mp h c hcl
theorem rep_len (z : Str) (n : Nat) : (repS z n).length = n * z.length := by
  show (List.replicate n z.cps.toList).flatten.toArray.size = _
  simp
  rfl
theorem cutS_to (x : Str) (k : Nat) : (cutS x none (some (k : Int))).cps.toList = x.cps.toList.take k := by
  unfold cutS
  show (x.cps.toList.drop _).take _ = _
  rw [HT.sIx_none, HT.sIx_nat, List.drop_zero, Nat.sub_zero]
  have e : x.length = x.cps.toList.length := rfl
  rw [e]
  by_cases h : k ≤ x.cps.toList.length
  · rw [Nat.min_eq_left h]
  · rw [Nat.min_eq_right (by omega), List.take_of_length_le (Nat.le_refl _), List.take_of_length_le (by omega)]
theorem txt_cut {x : Str} {a b k : Nat} (h1 : 9 ≤ x.length) (h2 : a ≤ 1 ∧ a ≤ k ∧ k ≤ b) (h3 : x.cps.toList.all isChar = true) : txt (.str (cutS x none (some (k : Int)))) a b = true := by
  have e : (cutS x none (some (k : Int))).cps.toList = x.cps.toList.take k := cutS_to x k
  have hl : (cutS x none (some (k : Int))).length = min k x.length := by
    show (cutS x none (some (k : Int))).cps.size = _
    rw [← Array.length_toList, e, List.length_take]
    rfl
  refine txt_of (by omega) (by omega) ?_
  rw [e, List.all_eq_true]
  intro c hc
  exact List.all_eq_true.mp h3 c (List.mem_of_mem_take hc)
def textWords : List Str := ["path", "accept-encoding", "a", ":method", "x=1; y=2"]
theorem words_ok : (textWords.all fun z => z.cps.toList.all isChar && decide (0 < z.length) && decide (z.length ≤ 15)) = true := by decide +kernel
/-! ### data of a bounded depth -/
def DLe : Nat → PyData → Prop
  | _, .none => True
  | _, .bool _ => True
  | _, .int _ => True
  | _, .str _ => True
  | 0, .list _ => False
  | 0, .tuple _ => False
  | n + 1, .list ds => ds.length ≤ 100000 ∧ ∀ d ∈ ds, DLe n d
  | n + 1, .tuple ds => ds.length ≤ 100000 ∧ ∀ d ∈ ds, DLe n d
  | _, _ => False
theorem dpAll_len {K : PySem.W.Frag} {H : Hp} : ∀ {xs : List V} {ds : List PyData}, DpAll K H xs ds → xs.length = ds.length
  | _, _, .nil => rfl
  | _, _, .cons _ t => by rw [List.length_cons, List.length_cons, dpAll_len t]
theorem dpAll_at {K : PySem.W.Frag} {H : Hp} : ∀ {xs : List V} {ds : List PyData} {i : Nat} {x : V}, DpAll K H xs ds → xs[i]? = some x → ∃ d, ds[i]? = some d ∧ Dp K H x d
  | _, _, _, _, .nil, e => by simp at e
  | _, _, 0, _, .cons h _, e => by simp at e; subst e; exact ⟨_, rfl, h⟩
  | _, _, i + 1, x, .cons _ t, e => by
    obtain ⟨d, h1, h2⟩ := dpAll_at (i := i) (x := x) t (by simpa using e)
    exact ⟨d, by simpa using h1, h2⟩
mutual
theorem dp_keep {K : PySem.W.Frag} {H H' : Hp} (s : Same H H') : ∀ {v : V} {d : PyData}, Dp K H v d → Dp K H' v d
  | _, _, .non => .non
  | _, _, .bl b => .bl b
  | _, _, .int i => .int i
  | _, _, .str x => .str x
  | _, _, .lst h a => .lst (s.seq h) (dpAll_keep s a)
  | _, _, .tup h a => .tup (s.tup h) (dpAll_keep s a)
theorem dpAll_keep {K : PySem.W.Frag} {H H' : Hp} (s : Same H H') : ∀ {vs : List V} {ds : List PyData}, DpAll K H vs ds → DpAll K H' vs ds
  | _, _, .nil => .nil
  | _, _, .cons h t => .cons (dp_keep s h) (dpAll_keep s t)
end
/-- _law_same on two values of the same data -/
def sp_law_same (K : PySem.W.Frag) (n : Nat) : Sp := fun vs H Q _ => ∃ (v u : V) (d : PyData), vs = [v, u] ∧ Dp K H v d ∧ Dp K H u d ∧ DLe n d ∧ ∀ H', Same H H' → Q (.bl true) H'
def sp_same_sub (K : PySem.W.Frag) : Nat → Sp
  | 0 => fun _ _ _ _ => False
  | m + 1 => sp_law_same K m
theorem walk_zipT {K : PySem.W.Frag} {a b : Addr} {xs ys : List V} {n : Nat} (hn : n = min xs.length ys.length) : Walk (RZ.ItzT K a b) n (fun H => SqT K H a xs ∧ SqT K H b ys) (YPair (fun i => xs[i]?) (fun i => ys[i]?)) := by
  subst hn
  refine ⟨fun i _ hi q => ?_, fun _ q => ⟨xs, ys, q.1, q.2, by omega⟩, fun i H v H' _ q y => ?_⟩
  · have h1 : i < xs.length := by omega
    have h2 : i < ys.length := by omega
    exact ⟨xs, ys, xs[i], ys[i], q.1, q.2, by simp [h1], by simp [h2]⟩
  · obtain ⟨T, x, z, h1, h2, h3, h4, h5⟩ := y
    exact ⟨T, x, z, h1, h2, h3, h4 xs q.1, h5 ys q.2⟩
theorem flat_trues (n : Nat) : ((List.range n).map fun _ => V.bl true).all flatV = true := by
  rw [List.all_map]; exact List.all_eq_true.mpr fun _ _ => rfl
theorem in_trues (n : Nat) : inV (.bl false) ((List.range n).map fun _ => V.bl true) = false := by
  unfold inV
  rw [List.any_map, List.any_eq_false]
  intro i _
  show ¬ (eqV (.bl true) (.bl false)) = true
  decide
end Fld
/-! The law's own def where what runs around it is known: no repr, no == is under way (Around.guards), so that repr of data may be walked in it. -/
namespace Fld
open PySem PySem.Spec PyProof.Rows L2
end Fld
/-! repr of data: how long its text may be, and the rule of the call. -/
namespace Fld
open PySem PySem.Spec PyProof.Rows L2
theorem textFrom_le : ∀ (ts : List Str) (k : Nat) (acc : Str), (textFrom k acc ts).length ≤ acc.length + piled ts
  | [], k, acc => by show acc.length ≤ _; omega
  | t :: r, k, acc => by
    have ih := textFrom_le r (k + 1) (acc ++ (if k > 0 then ", " else "" : String) ++ t)
    have e : (acc ++ (if k > 0 then ", " else "" : String) ++ t).length ≤ acc.length + 2 + t.length := by
      rw [strLen_append, strLen_append]
      split
      · exact Nat.le_refl _
      · show acc.length + 0 + t.length ≤ _; omega
    have e2 : piled (t :: r) = t.length + 2 + piled r := by unfold piled; rw [List.map_cons, List.sum_cons]
    show (textFrom (k + 1) _ r).length ≤ _
    omega
theorem listText_le (ts : List Str) : (listText ts).length ≤ piled ts + 4 := by
  unfold listText
  rw [strLen_append]
  have h := textFrom_le ts 0 "["
  have e1 : ((("[" : String) : Str)).length = 1 := rfl
  have e2 : ((("]" : String) : Str)).length = 1 := rfl
  omega
theorem tupleText_le (ts : List Str) : (tupleText ts).length ≤ piled ts + 4 := by
  unfold tupleText
  rw [strLen_append, strLen_append]
  have e1 : ((("(" : String) : Str)).length = 1 := rfl
  have e3 : (((if ts.length == 1 then ",)" else ")" : String) : Str)).length ≤ 2 := by split <;> decide
  by_cases h : ts = []
  · subst h
    have e0 : (Str.join ", " []).length = 0 := rfl
    omega
  · have := join_length_add ts h
    omega
theorem toString_le {i : Int} (h : i.natAbs < 2 ^ 1000) : (Str.ofString (toString i)).length ≤ 1010 := by
  have h1 : (Nat.repr i.natAbs).length ≤ 1000 := nat_repr_length_le (by decide) h
  have e : ∀ z : String, (Str.ofString z).length = z.length := fun z => by
    rw [TL.len_tl, TL.tl_ofString, List.length_map]
    rfl
  rw [e]
  cases i with
  | ofNat n =>
    have : (toString (Int.ofNat n)) = Nat.repr n := rfl
    rw [this]
    have h2 : (Nat.repr n).length ≤ 1000 := h1
    omega
  | negSucc n =>
    have : (toString (Int.negSucc n)) = "-" ++ Nat.repr (n + 1) := rfl
    rw [this, String.length_append]
    have h2 : (Nat.repr (n + 1)).length ≤ 1000 := h1
    have h3 : ("-" : String).length = 1 := rfl
    omega
theorem log_le {n : Nat} (h : n < 2 ^ 1000) : n.log2 < 1920 := by
  by_cases e : n = 0
  · subst e; decide
  · exact Nat.lt_trans ((Nat.log2_lt e).mpr h) (by decide)
end Fld
/-! values of any kind, dicts with int and text keys among them: their data, what isinstance, repr and == with a text say of them -/
namespace Fld
open PySem PySem.Spec PyProof.Rows L2
def ofK : Key → PyData
  | .inl i => .int i
  | .inr x => .str x
mutual
inductive Dv (K : PySem.W.Frag) (H : Hp) : V → PyData → Prop
  | non : Dv K H .non .none
  | bl (b : Bool) : Dv K H (.bl b) (.bool b)
  | int (i : Int) : Dv K H (.int i) (.int i)
  | str (x : Str) : Dv K H (.str x) (.str x)
  | lst {a : Addr} {xs : List V} {ds : List PyData} : SqL K H a xs → DvAll K H xs ds → Dv K H (.ref a) (.list ds)
  | tup {a : Addr} {xs : List V} {ds : List PyData} : SqT K H a xs → DvAll K H xs ds → Dv K H (.ref a) (.tuple ds)
  | dic {a : Addr} {kvs : List (Key × V)} {ps : List (PyData × PyData)} : H a = some (.dK kvs) → kvs.map (fun p => ofK p.1) = ps.map (·.1) → DvAll K H (kvs.map (·.2)) (ps.map (·.2)) → Dv K H (.ref a) (.dict ps)
inductive DvAll (K : PySem.W.Frag) (H : Hp) : List V → List PyData → Prop
  | nil : DvAll K H [] []
  | cons {v : V} {vs : List V} {d : PyData} {ds : List PyData} : Dv K H v d → DvAll K H vs ds → DvAll K H (v :: vs) (d :: ds)
end
mutual
theorem Dv.keep {K : PySem.W.Frag} {H H' : Hp} (s : Same H H') : ∀ {v : V} {d : PyData}, Dv K H v d → Dv K H' v d
  | _, _, .non => .non
  | _, _, .bl b => .bl b
  | _, _, .int i => .int i
  | _, _, .str x => .str x
  | _, _, .lst h a => .lst (s.seq h) (DvAll.keep s a)
  | _, _, .tup h a => .tup (s.tup h) (DvAll.keep s a)
  | _, _, .dic h e a => .dic (s _ _ h) e (DvAll.keep s a)
theorem DvAll.keep {K : PySem.W.Frag} {H H' : Hp} (s : Same H H') : ∀ {vs : List V} {ds : List PyData}, DvAll K H vs ds → DvAll K H' vs ds
  | _, _, .nil => .nil
  | _, _, .cons h t => .cons (Dv.keep s h) (DvAll.keep s t)
end
/-! no dict within -/
mutual
def noDict : PyData → Bool
  | .list xs => noDictAll xs
  | .tuple xs => noDictAll xs
  | .dict _ => false
  | _ => true
def noDictAll : List PyData → Bool
  | [] => true
  | x :: xs => noDict x && noDictAll xs
end
mutual
theorem Dv.dp {K : PySem.W.Frag} {H : Hp} : ∀ {v : V} {d : PyData}, Dv K H v d → noDict d = true → Dp K H v d
  | _, _, .non, _ => .non
  | _, _, .bl b, _ => .bl b
  | _, _, .int i, _ => .int i
  | _, _, .str x, _ => .str x
  | _, _, .lst h a, n => .lst h (DvAll.dp a (by simpa [noDict] using n))
  | _, _, .tup h a, n => .tup h (DvAll.dp a (by simpa [noDict] using n))
  | _, _, .dic h e a, n => by simp [noDict] at n
theorem DvAll.dp {K : PySem.W.Frag} {H : Hp} : ∀ {vs : List V} {ds : List PyData}, DvAll K H vs ds → noDictAll ds = true → DpAll K H vs ds
  | _, _, .nil, _ => .nil
  | _, _, .cons h t, n => by
    rw [noDictAll, Bool.and_eq_true] at n
    exact .cons (Dv.dp h n.1) (DvAll.dp t n.2)
end
def tyD : PyData → String
  | .none => "NoneType"
  | .bool _ => "bool"
  | .int _ => "int"
  | .str _ => "str"
  | .list _ => "list"
  | .tuple _ => "tuple"
  | .dict _ => "dict"
theorem Dv.kind {K : PySem.W.Frag} {H : Hp} {v : V} {d : PyData} (h : Dv K H v d) : Kind K H v (tyD d) := by
  cases h with
  | non => exact .non
  | bl b => exact .bl b
  | int i => exact .int i
  | str x => exact .str x
  | lst h a => exact .lst h
  | tup h a => exact .tup h
  | dic h e a => exact .dK h
theorem DvAll.len {K : PySem.W.Frag} {H : Hp} : ∀ {xs : List V} {ds : List PyData}, DvAll K H xs ds → xs.length = ds.length
  | _, _, .nil => rfl
  | _, _, .cons _ t => by rw [List.length_cons, List.length_cons, DvAll.len t]
theorem DvAll.at {K : PySem.W.Frag} {H : Hp} : ∀ {xs : List V} {ds : List PyData} {i : Nat} {x : V}, DvAll K H xs ds → xs[i]? = some x → ∃ d, ds[i]? = some d ∧ Dv K H x d
  | _, _, _, _, .nil, e => by simp at e
  | _, _, 0, _, .cons h _, e => by simp at e; subst e; exact ⟨_, rfl, h⟩
  | _, _, i + 1, x, .cons _ t, e => by
    obtain ⟨d, h1, h2⟩ := DvAll.at (i := i) (x := x) t (by simpa using e)
    exact ⟨d, by simpa using h1, h2⟩
theorem DvAll.app {K : PySem.W.Frag} {H : Hp} : ∀ {xs ys : List V} {ds es : List PyData}, DvAll K H xs ds → DvAll K H ys es → DvAll K H (xs ++ ys) (ds ++ es)
  | _, _, _, _, .nil, s => s
  | _, _, _, _, .cons r t, s => .cons r (DvAll.app t s)
theorem DvAll.take {K : PySem.W.Frag} {H : Hp} : ∀ {xs : List V} {ds : List PyData} (n : Nat), DvAll K H xs ds → DvAll K H (xs.take n) (ds.take n)
  | _, _, 0, _ => .nil
  | _, _, _ + 1, .nil => .nil
  | _, _, n + 1, .cons r t => .cons r (DvAll.take n t)
theorem DvAll.drop {K : PySem.W.Frag} {H : Hp} : ∀ {xs : List V} {ds : List PyData} (n : Nat), DvAll K H xs ds → DvAll K H (xs.drop n) (ds.drop n)
  | _, _, 0, r => r
  | _, _, _ + 1, .nil => .nil
  | _, _, n + 1, .cons _ t => DvAll.drop n t
theorem DvAll.set {K : PySem.W.Frag} {H : Hp} {x : V} {d : PyData} (r : Dv K H x d) : ∀ {xs : List V} {ds : List PyData} (i : Nat), DvAll K H xs ds → DvAll K H (xs.set i x) (ds.set i d)
  | _, _, _, .nil => .nil
  | _, _, 0, .cons _ t => .cons r t
  | _, _, i + 1, .cons q t => .cons q (DvAll.set r i t)
/-! ### what it reads as -/
theorem pairs_reads {P : Program} {w : World} {h : Heap} : ∀ {es : List DictEntry} {vs : List (Key × Value)}, Pairs (mixKind P w) es vs → (∃ as, ReadsAll h (es.map (·.key)) (vs.map fun p => ofK p.1) as ∧ as = []) ∧ es.map (·.val) = vs.map (·.2)
  | _, _, .nil => ⟨⟨_, .nil, rfl⟩, rfl⟩
  | _, _, .cons (e := e) (kv := kv) hk hv t => by
    obtain ⟨⟨as, h1, h0⟩, h2⟩ := pairs_reads (h := h) t
    refine ⟨?_, by rw [List.map_cons, List.map_cons, h2, hv]⟩
    rcases keyIs_shape (k := kv.1) (v := e.key) hk with ⟨i, u, e1, e2⟩ | ⟨x, u, e1, e2⟩
    · refine ⟨_, ReadsAll.cons (as := []) (bs := as) ?_ h1, by rw [h0]; rfl⟩
      show Reads h e.key (ofK kv.1) []
      rw [e1, e2]
      exact Reads.int i u
    · refine ⟨_, ReadsAll.cons (as := []) (bs := as) ?_ h1, by rw [h0]; rfl⟩
      show Reads h e.key (ofK kv.1) []
      rw [e1, e2]
      exact Reads.str x u
theorem kv_keys {kvs : List (Key × V)} {vs : List (Key × Value)} (r : KV kvs vs) : vs.map (fun p => ofK p.1) = kvs.map fun p => ofK p.1 := by
  have h := r.keys
  have e1 : vs.map (fun p => ofK p.1) = (vs.map (·.1)).map ofK := by rw [List.map_map]; rfl
  have e2 : kvs.map (fun p => ofK p.1) = (kvs.map (·.1)).map ofK := by rw [List.map_map]; rfl
  rw [e1, e2, h]
theorem kv_vals : ∀ {kvs : List (Key × V)} {vs : List (Key × Value)}, KV kvs vs → Vals (kvs.map (·.2)) (vs.map (·.2))
  | _, _, .nil => .nil
  | _, _, .cons r t => .cons r.2 (kv_vals t)
mutual
theorem Dv.reads {X : Cx} {pins : List (Addr × Obj)} {σ : L2.St} {H : Hp} {s : Shared} (I : Inv X pins σ H s) : ∀ {d : PyData} {v : V} {u : Value}, Dv X.K H v d → RelV v u → ∃ as, Reads s.heap u d as
  | _, _, _, .non, r => by cases r; exact ⟨_, Reads.none⟩
  | _, _, _, .bl b, r => by cases r; exact ⟨_, Reads.bool b⟩
  | _, _, _, .int i, r => by obtain ⟨t, rfl⟩ := r; exact ⟨_, Reads.int i t⟩
  | _, _, _, .str x, r => by obtain ⟨t, rfl⟩ := r; exact ⟨_, Reads.str x t⟩
  | _, _, _, .lst hs ha, r => by
    cases r
    obtain ⟨its, rv, ⟨o, n, ho, hc, _, hd⟩, _⟩ := I.list hs
    obtain ⟨as, hr⟩ := DvAll.reads I ha rv
    exact ⟨_, Reads.list ho hc hd hr⟩
  | _, _, _, .tup hs ha, r => by
    cases r
    obtain ⟨its, rv, ⟨o, ho, hc, n, hd⟩, _⟩ := I.tuple hs
    obtain ⟨as, hr⟩ := DvAll.reads I ha rv
    exact ⟨_, Reads.tuple ho hc hd hr⟩
  | .dict ps, _, _, .dic (kvs := kvs) hs he ha, r => by
    cases r
    obtain ⟨_, hy, vs, kv, ⟨o, es, ep, ho, ex, hd, _, pr, _⟩⟩ := dk_of I.hok hs
    obtain ⟨⟨as, h1, n1⟩, h2⟩ := pairs_reads (h := s.heap) pr
    obtain ⟨bs, h3⟩ := DvAll.reads I ha (kv_vals kv)
    rw [kv_keys kv, he] at h1
    exact ⟨_, Reads.dict ho ex.1 hd h1 (by rw [h2]; exact h3)⟩
theorem DvAll.reads {X : Cx} {pins : List (Addr × Obj)} {σ : L2.St} {H : Hp} {s : Shared} (I : Inv X pins σ H s) : ∀ {ds : List PyData} {vs : List V} {us : List Value}, DvAll X.K H vs ds → Vals vs us → ∃ as, ReadsAll s.heap us ds as
  | _, _, _, .nil, r => by cases r; exact ⟨_, ReadsAll.nil⟩
  | _, _, _, .cons h1 h2, r => by
    cases r with
    | cons r1 r2 =>
      obtain ⟨as, q1⟩ := Dv.reads I h1 r1
      obtain ⟨bs, q2⟩ := DvAll.reads I h2 r2
      exact ⟨_, ReadsAll.cons q1 q2⟩
end
/-- the text of a value by its parts, none of which is deeper than n -/
def Shw (P : Program) (w : World) (h : Heap) (n : Nat) (u : Value) (t : Str) : Prop := ∃ bs, ReadAtMost h n bs ∧ ReprK P w bs h n u t
def ShwAll (P : Program) (w : World) (h : Heap) (n : Nat) (us : List Value) (ts : List Str) : Prop := ∃ bs, ReadAtMost h n bs ∧ ReprAllK P w bs h n us ts
theorem shw_is {P : Program} {w : World} {h : Heap} {n : Nat} {u : Value} {t : Str} (r : ReprIs P w u t) : Shw P w h n u t := ⟨[], fun _ z => (nomatch z), .of_is r _ _ _⟩
theorem ShwAll.mono {P : Program} {w : World} {h : Heap} {n m : Nat} {us : List Value} {ts : List Str} (l : n ≤ m) : ShwAll P w h n us ts → ShwAll P w h m us ts := fun ⟨bs, a, b⟩ => ⟨bs, a.mono l, b.more_le (fun _ z => z) l⟩
theorem ShwAll.cons {P : Program} {w : World} {h : Heap} {n m : Nat} {u : Value} {t : Str} {us : List Value} {ts : List Str} : Shw P w h n u t → ShwAll P w h m us ts → ShwAll P w h (max n m) (u :: us) (t :: ts) := by
  rintro ⟨bs, a, b⟩ ⟨cs, c, d⟩
  have l1 := Nat.le_max_left n m
  have l2 := Nat.le_max_right n m
  refine ⟨bs ++ cs, (a.mono l1).append (c.mono l2), ReprAllK.cons ((b.more fun z hz => ?_).level_le l1) (d.more_le (fun z hz => ?_) l2)⟩
  · exact List.mem_append.mpr (.inl hz)
  · exact List.mem_append.mpr (.inr hz)
theorem pairs_show {P : Program} {w : World} {h : Heap} : ∀ {es : List DictEntry} {vs : List (Key × Value)}, Pairs (mixKind P w) es vs → PyData.showableAll (vs.map fun p => ofK p.1) = true → (∀ t ∈ PyData.shownAll (vs.map fun p => ofK p.1), t.length ≤ sizeLine) →
    ShwAll P w h (PyData.depthAll (vs.map fun p => ofK p.1)) (es.map (·.key)) (PyData.shownAll (vs.map fun p => ofK p.1))
  | _, _, .nil, _, _ => ⟨[], fun _ z => (nomatch z), by simp only [List.map_nil, PyData.shownAll]; exact .nil⟩
  | _, _, .cons (e := e) (kv := kv) hk hv t, hs, hz => by
    rw [List.map_cons, PyData.showableAll, Bool.and_eq_true] at hs
    rw [List.map_cons, PyData.shownAll] at hz
    rw [List.map_cons, List.map_cons, PyData.shownAll, PyData.depthAll]
    refine ShwAll.cons ?_ (pairs_show t hs.2 fun x hx => hz x (List.mem_cons.mpr (.inr hx)))
    have z1 := hz _ (List.mem_cons.mpr (.inl rfl))
    have s1 := hs.1
    rcases keyIs_shape (k := kv.1) (v := e.key) hk with ⟨i, u, e1, e2⟩ | ⟨x, u, e1, e2⟩
    · rw [e1] at s1 z1 ⊢
      rw [e2]
      have s2 : PyData.showable (.int i) = true := s1
      exact shw_is (ReprIs.int u (by simpa [PyData.showable] using s2))
    · rw [e1] at s1 z1 ⊢
      rw [e2]
      exact shw_is (ReprIs.str x u (by simpa [ofK, PyData.shown] using z1))
mutual
theorem Dv.show {X : Cx} {pins : List (Addr × Obj)} {σ : L2.St} {H : Hp} {s : Shared} (I : Inv X pins σ H s) : ∀ {d : PyData} {v : V} {u : Value}, Dv X.K H v d → RelV v u → d.showable = true → d.shown.length ≤ sizeLine → Shw X.prog X.w s.heap d.depth u d.shown
  | _, _, _, .non, r, _, _ => by cases r; rw [PyData.shown]; exact shw_is ReprIs.none
  | _, _, _, .bl b, r, _, _ => by cases r; rw [PyData.shown]; exact shw_is (ReprIs.bool b)
  | _, _, _, .int i, r, hs, _ => by obtain ⟨t, rfl⟩ := r; rw [PyData.shown]; exact shw_is (ReprIs.int t (by simpa [PyData.showable] using hs))
  | _, _, _, .str x, r, _, hz => by obtain ⟨t, rfl⟩ := r; rw [PyData.shown] at hz ⊢; exact shw_is (ReprIs.str x t hz)
  | .list ds, .ref a, _, .lst hs ha, r, sh, hz => by
    cases r
    obtain ⟨its, rv, ⟨o, n, ho, hc, _, hd⟩, _⟩ := I.list hs
    obtain ⟨as, hr⟩ := DvAll.reads I ha rv
    have rd : Reads s.heap (.ref a) (.list ds) _ := Reads.list ho hc hd hr
    rw [PyData.shown] at hz ⊢
    obtain ⟨bs, hb, hk⟩ := DvAll.show I ha rv (by simpa [PyData.showable] using sh) fun t ht => Nat.le_trans (listText_mem_le ht) hz
    have na : a ∉ bs := not_mem_of_deeper rd (by rw [PyData.depth]; omega) hb
    refine ⟨a :: bs, ReadAtMost.cons rd (by rw [PyData.depth]; omega) hb, ?_⟩
    rw [PyData.depth]
    cases its with
    | nil =>
      cases hr
      simp only [listText_nil, PyData.shownAll]
      exact .listEmpty ho hc hd
    | cons x l => exact .list ho hc hd na (by simpa using hk.length_eq) fun i y e => hk.item i y (by simpa using e)
  | .tuple ds, .ref a, _, .tup hs ha, r, sh, hz => by
    cases r
    obtain ⟨its, rv, ⟨o, ho, hc, n, hd⟩, _⟩ := I.tuple hs
    obtain ⟨as, hr⟩ := DvAll.reads I ha rv
    have rd : Reads s.heap (.ref a) (.tuple ds) _ := Reads.tuple ho hc hd hr
    rw [PyData.shown] at hz ⊢
    obtain ⟨bs, hb, hk⟩ := DvAll.show I ha rv (by simpa [PyData.showable] using sh) fun t ht => Nat.le_trans (tupleText_mem_le ht) hz
    have na : a ∉ bs := not_mem_of_deeper rd (by rw [PyData.depth]; omega) hb
    refine ⟨a :: bs, ReadAtMost.cons rd (by rw [PyData.depth]; omega) hb, ?_⟩
    rw [PyData.depth]
    exact .tuple ho hc hd na hk
  | .dict ps, .ref a, _, .dic (kvs := kvs) hs he ha, r, sh, hz => by
    cases r
    obtain ⟨_, hy, vs, kv, ⟨o, es, ep, ho, ex, hd, _, pr, _⟩⟩ := dk_of I.hok hs
    obtain ⟨⟨as, h1, n1⟩, h2⟩ := pairs_reads (h := s.heap) pr
    obtain ⟨bs, h3⟩ := DvAll.reads I ha (kv_vals kv)
    obtain ⟨sh1, sh2⟩ := PyData.showableKv_split ps (by simpa [PyData.showable] using sh)
    rw [PyData.shown] at hz ⊢
    have k1 := pairs_show (h := s.heap) pr (by rw [kv_keys kv, he]; exact sh1) (fun t ht => by
      rw [kv_keys kv, he] at ht
      obtain ⟨p, hp, hl⟩ := PyData.shownKv_key_le ps t ht
      exact Nat.le_trans hl (Nat.le_trans (dictText_mem_le hp) hz))
    rw [kv_keys kv, he] at k1 h1
    have k2 := DvAll.show I ha (kv_vals kv) sh2 (fun t ht => by
      obtain ⟨p, hp, hl⟩ := PyData.shownKv_val_le ps t ht
      exact Nat.le_trans hl (Nat.le_trans (dictText_mem_le hp) hz))
    rw [← h2] at k2 h3
    have rd : Reads s.heap (.ref a) (.dict ps) _ := Reads.dict ho ex.1 hd h1 h3
    obtain ⟨b1, r1, q1⟩ := k1.mono (PyData.depthAll_keys_le ps)
    obtain ⟨b2, r2, q2⟩ := k2.mono (PyData.depthAll_vals_le ps)
    have hb := r1.append r2
    have na : a ∉ b1 ++ b2 := not_mem_of_deeper rd (by rw [PyData.depth]; omega) hb
    refine ⟨a :: (b1 ++ b2), ReadAtMost.cons rd (by rw [PyData.depth]; omega) hb, ?_⟩
    rw [PyData.depth, PyData.shownKv_eq]
    refine .dict ho ex.1 hd hy na (ReprEntriesK.of_two es.toList _ _ (q1.more_le (fun z hz => ?_) (Nat.le_refl _)) (q2.more_le (fun z hz => ?_) (Nat.le_refl _)))
    · exact List.mem_append.mpr (.inl hz)
    · exact List.mem_append.mpr (.inr hz)
theorem DvAll.show {X : Cx} {pins : List (Addr × Obj)} {σ : L2.St} {H : Hp} {s : Shared} (I : Inv X pins σ H s) : ∀ {ds : List PyData} {vs : List V} {us : List Value}, DvAll X.K H vs ds → Vals vs us → PyData.showableAll ds = true → (∀ t ∈ PyData.shownAll ds, t.length ≤ sizeLine) →
    ShwAll X.prog X.w s.heap (PyData.depthAll ds) us (PyData.shownAll ds)
  | _, _, _, .nil, r, _, _ => by cases r; rw [PyData.shownAll]; exact ⟨[], fun _ z => (nomatch z), .nil⟩
  | _, _, _, .cons h1 h2, r, sh, hz => by
    cases r with
    | cons r1 r2 =>
      rw [PyData.showableAll, Bool.and_eq_true] at sh
      rw [PyData.shownAll] at hz ⊢
      rw [PyData.depthAll]
      exact ShwAll.cons (Dv.show I h1 r1 sh.1 (hz _ (List.mem_cons.mpr (.inl rfl)))) (DvAll.show I h2 r2 sh.2 fun x hx => hz x (List.mem_cons.mpr (.inr hx)))
end
/-! ### weight and repr -/
mutual
def okV : PyData → Bool
  | .none => true
  | .bool _ => true
  | .int i => decide (i.natAbs < 2 ^ 1000)
  | .str x => (x.cps.toList.all fun c => decide (c < 4294967296)) && decide (x.length ≤ 100000)
  | .list xs => okVAll xs
  | .tuple xs => okVAll xs
  | .dict ps => okVKv ps
def okVAll : List PyData → Bool
  | [] => true
  | x :: xs => okV x && okVAll xs
def okVKv : List (PyData × PyData) → Bool
  | [] => true
  | (a, b) :: r => okV a && okV b && okVKv r
end
mutual
/-- no less than the length of its text -/
def wV : PyData → Nat
  | .none => 4
  | .bool _ => 5
  | .int _ => 1010
  | .str x => 10 * x.length + 2
  | .list xs => wVAll xs + 4
  | .tuple xs => wVAll xs + 4
  | .dict ps => wVKv ps + 4
def wVAll : List PyData → Nat
  | [] => 0
  | x :: xs => wV x + 2 + wVAll xs
def wVKv : List (PyData × PyData) → Nat
  | [] => 0
  | (a, b) :: r => wV a + wV b + 6 + wVKv r
end
theorem dictText_le : ∀ (ps : List (PyData × PyData)), (dictText (PyData.shownKv ps)).length ≤ piled (PyData.shownKv ps) + 4 := by
  intro ps
  unfold dictText
  rw [strLen_append, strLen_append]
  have e1 : ((("{" : String) : Str)).length = 1 := rfl
  have e3 : ((("}" : String) : Str)).length = 1 := rfl
  by_cases h : PyData.shownKv ps = []
  · rw [h]
    have e0 : (Str.join ", " []).length = 0 := rfl
    omega
  · have := join_length_add (PyData.shownKv ps) h
    omega
mutual
theorem shownV_le : ∀ d : PyData, okV d = true → d.shown.length ≤ wV d ∧ d.showable = true
  | .none, _ => ⟨by decide, rfl⟩
  | .bool b, _ => ⟨by cases b <;> decide, rfl⟩
  | .int i, h => by
    have h' : i.natAbs < 2 ^ 1000 := of_decide_eq_true (show decide _ = true from h)
    exact ⟨toString_le h', decide_eq_true (log_le h')⟩
  | .str x, h => by
    refine ⟨StrLaws.reprText_len x fun c hc => ?_, rfl⟩
    have h' : ((x.cps.toList.all fun c => decide (c < 4294967296)) && decide (x.length ≤ 100000)) = true := h
    rw [Bool.and_eq_true] at h'
    have := of_decide_eq_true (List.all_eq_true.mp h'.1 c hc)
    have e : (16 : Nat) ^ 8 = 4294967296 := by decide
    omega
  | .list xs, h => by
    have ih := shownVAll_le xs h
    refine ⟨?_, by rw [PyData.showable]; exact ih.2⟩
    rw [PyData.shown, wV]
    have := listText_le (PyData.shownAll xs)
    omega
  | .tuple xs, h => by
    have ih := shownVAll_le xs h
    refine ⟨?_, by rw [PyData.showable]; exact ih.2⟩
    rw [PyData.shown, wV]
    have := tupleText_le (PyData.shownAll xs)
    omega
  | .dict ps, h => by
    have ih := shownVKv_le ps h
    refine ⟨?_, by rw [PyData.showable]; exact ih.2⟩
    rw [PyData.shown, wV]
    have := dictText_le ps
    omega
theorem shownVAll_le : ∀ ds : List PyData, okVAll ds = true → piled (PyData.shownAll ds) ≤ wVAll ds ∧ PyData.showableAll ds = true
  | [], _ => ⟨by rw [PyData.shownAll]; exact Nat.le_refl _, rfl⟩
  | d :: ds, h => by
    have h' : (okV d && okVAll ds) = true := by rw [okVAll] at h; exact h
    rw [Bool.and_eq_true] at h'
    have i1 := shownV_le d h'.1
    have i2 := shownVAll_le ds h'.2
    refine ⟨?_, by rw [PyData.showableAll, i1.2, i2.2]; rfl⟩
    rw [PyData.shownAll, wVAll]
    have e2 : piled (d.shown :: PyData.shownAll ds) = d.shown.length + 2 + piled (PyData.shownAll ds) := by unfold piled; rw [List.map_cons, List.sum_cons]
    omega
theorem shownVKv_le : ∀ ps : List (PyData × PyData), okVKv ps = true → piled (PyData.shownKv ps) ≤ wVKv ps ∧ PyData.showableKv ps = true
  | [], _ => ⟨by rw [PyData.shownKv]; exact Nat.le_refl _, rfl⟩
  | (a, b) :: r, h => by
    have h' : (okV a && okV b && okVKv r) = true := by rw [okVKv] at h; exact h
    rw [Bool.and_eq_true, Bool.and_eq_true] at h'
    have i1 := shownV_le a h'.1.1
    have i2 := shownV_le b h'.1.2
    have i3 := shownVKv_le r h'.2
    refine ⟨?_, by rw [PyData.showableKv, i1.2, i2.2, i3.2]; rfl⟩
    rw [PyData.shownKv, wVKv]
    have e2 : ∀ (t : Str) (l : List Str), piled (t :: l) = t.length + 2 + piled l := fun t l => by unfold piled; rw [List.map_cons, List.sum_cons]
    rw [e2, strLen_append, strLen_append]
    have e3 : (((": " : String) : Str)).length = 2 := rfl
    omega
end
/-- how deep -/
def rReprV (K : PySem.W.Frag) : List V → Hp → VK → Prop := fun xs H Q => ∃ (x : V) (d : PyData), xs = [x] ∧ Dv K H x d ∧ okV d = true ∧ d.depth ≤ 40 ∧ wV d ≤ 10000000 ∧ Q (.str d.shown) H
theorem shows_call {P : Program} {w : World} {s : Shared} {a : Addr} {d : PyData} {T idr : String} {A : Around} {E : Value → Shared → Prop} {Q : Value → Shared → Prop} (hg : A.guards = some []) (hu : A.units + (d.depth + 1) < cLine) (S : ShowsBy P w s.heap a d T idr)
    (q : ∀ h' u tk, (∀ b o, s.heap.get? b = some o → h'.get? b = some o) → Q (.str d.shown u) { s with heap := h', toks := tk }) : wpAny (model P w) A (call (.builtin "repr") [.ref a]) Q E s :=
  call_repr_slot (by omega) (S.typeIs s fun _ _ e => e) S.slotRepr (S.call A.in1 E s _ hg (by show A.units + 1 + d.depth < cLine; omega) (fun _ _ e => e) fun h' u tk hk => ⟨_, _, rfl, q h' u tk hk⟩)
theorem call_reprV {X : Cx} (hg : X.A.guards = some []) (hu : X.A.units + 64 < cLine) : CallR X (.builtin "repr") (rReprV X.K) := by
  intro pins s σ H xs us Q I r h
  obtain ⟨x, d, rfl, hd, ok, hn, hw, q⟩ := h
  obtain ⟨u, rfl, ru⟩ := vals1 r
  obtain ⟨hl, hs⟩ := shownV_le d ok
  have hsz : d.shown.length ≤ sizeLine := by rw [sizeLine_eq]; omega
  cases hd with
  | non =>
    cases ru
    exact P.repr_of_none ⟨.str _, H, I.tok _, ⟨_, rfl⟩, q⟩
  | bl b =>
    cases ru
    exact P.repr_of_bool ⟨.str _, H, I.tok _, ⟨_, rfl⟩, q⟩
  | int i =>
    obtain ⟨t, rfl⟩ := ru
    have h' : i.natAbs < 2 ^ 1000 := of_decide_eq_true (show decide _ = true from ok)
    exact P.repr_of_int (log_le h') ⟨.str _, H, I.tok _, ⟨_, rfl⟩, q⟩
  | str z =>
    obtain ⟨t, rfl⟩ := ru
    exact P.repr_of_str ⟨.str _, H, I.tok _, ⟨_, rfl⟩, q⟩ hsz
  | @lst a xs ds hs2 ha =>
    cases ru
    refine shows_call (T := "list") (idr := "list.__repr__") (d := .list ds) hg (by omega) ⟨F.slot_list_repr.toG, F.slot_list_str, F.slot_list_format, fun s2 hk => ?_, fun A E s2 Q2 hg2 hu2 hk0 hQ => ?_⟩ fun h' tu tk hk => ⟨.str _, H, I.kept hk, ⟨_, rfl⟩, q⟩
    · obtain ⟨its, rv, ⟨o, n, ho, hc, _, hd⟩, _⟩ := I.list hs2
      exact ⟨o, hk _ _ ho, hc⟩
    · obtain ⟨its, rv, ⟨o, n, ho, hc, _, hd⟩, _⟩ := I.list hs2
      rw [PyData.shown] at hsz hQ
      rw [PyData.depth] at hu2
      obtain ⟨bs, hb, hk⟩ := DvAll.show I ha rv (by simpa [PyData.showable] using hs) fun t ht => Nat.le_trans (listText_mem_le ht) hsz
      obtain ⟨as, hr⟩ := DvAll.reads I ha rv
      have na : a ∉ bs := not_mem_of_deeper (Reads.list ho hc hd hr) (by rw [PyData.depth]; omega) hb
      cases its with
      | nil =>
        cases hr
        rw [PyData.shownAll, listText_nil] at hQ
        exact call_list_repr_empty ⟨o, hk0 _ _ ho, hc⟩ (hk0 _ _ ho) hd (hQ s2.heap _ _ fun _ _ e => e)
      | cons y l => exact call_list_reprK ho hc hd na (by simpa using hk.length_eq) (fun i z e => hk.item i z (by simpa using e)) hg2 (fun b _ => Clear.nil b) hu2 hk0 hQ hsz
  | @tup a xs ds hs2 ha =>
    cases ru
    refine shows_call (T := "tuple") (idr := "tuple.__repr__") (d := .tuple ds) hg (by omega) ⟨F.slot_tuple_repr, F.slot_tuple_str, F.slot_tuple_format, fun s2 hk => ?_, fun A E s2 Q2 hg2 hu2 hk0 hQ => ?_⟩ fun h' tu tk hk => ⟨.str _, H, I.kept hk, ⟨_, rfl⟩, q⟩
    · obtain ⟨its, rv, ⟨o, ho, hc, n, hd⟩, _⟩ := I.tuple hs2
      exact ⟨o, hk _ _ ho, hc⟩
    · obtain ⟨its, rv, ⟨o, ho, hc, n, hd⟩, _⟩ := I.tuple hs2
      rw [PyData.shown] at hsz hQ
      rw [PyData.depth] at hu2
      obtain ⟨bs, hb, hk⟩ := DvAll.show I ha rv (by simpa [PyData.showable] using hs) fun t ht => Nat.le_trans (tupleText_mem_le ht) hsz
      obtain ⟨as, hr⟩ := DvAll.reads I ha rv
      have na : a ∉ bs := not_mem_of_deeper (Reads.tuple ho hc hd hr) (by rw [PyData.depth]; omega) hb
      exact call_tuple_reprK ho hc hd na hk hg2 (fun b _ => Clear.nil b) hu2 hk0 hQ hsz
  | @dic a kvs ps hs2 he ha =>
    cases ru
    refine shows_call (T := "dict") (idr := "dict.__repr__") (d := .dict ps) hg (by omega) ⟨F.slot_dict_repr, F.slot_dict_str, F.slot_dict_format, fun s2 hk => ?_, fun A E s2 Q2 hg2 hu2 hk0 hQ => ?_⟩ fun h' tu tk hk => ⟨.str _, H, I.kept hk, ⟨_, rfl⟩, q⟩
    · obtain ⟨_, hy, vs, kv, ⟨o, es, ep, ho, ex, hd, _, pr, _⟩⟩ := dk_of I.hok hs2
      exact ⟨o, hk _ _ ho, ex.1⟩
    · obtain ⟨_, hy, vs, kv, ⟨o, es, ep, ho, ex, hd, _, pr, _⟩⟩ := dk_of I.hok hs2
      obtain ⟨⟨as, h1, n1⟩, h2⟩ := pairs_reads (h := s.heap) pr
      obtain ⟨bs, h3⟩ := DvAll.reads I ha (kv_vals kv)
      obtain ⟨sh1, sh2⟩ := PyData.showableKv_split ps (by simpa [PyData.showable] using hs)
      rw [PyData.shown] at hsz hQ
      rw [PyData.depth] at hu2
      have k1 := pairs_show (h := s.heap) pr (by rw [kv_keys kv, he]; exact sh1) (fun t ht => by
        rw [kv_keys kv, he] at ht
        obtain ⟨p, hp, hl⟩ := PyData.shownKv_key_le ps t ht
        exact Nat.le_trans hl (Nat.le_trans (dictText_mem_le hp) hsz))
      rw [kv_keys kv, he] at k1 h1
      have k2 := DvAll.show I ha (kv_vals kv) sh2 (fun t ht => by
        obtain ⟨p, hp, hl⟩ := PyData.shownKv_val_le ps t ht
        exact Nat.le_trans hl (Nat.le_trans (dictText_mem_le hp) hsz))
      rw [← h2] at k2 h3
      obtain ⟨b1, r1, q1⟩ := k1.mono (PyData.depthAll_keys_le ps)
      obtain ⟨b2, r2, q2⟩ := k2.mono (PyData.depthAll_vals_le ps)
      have na : a ∉ b1 ++ b2 := not_mem_of_deeper (Reads.dict ho ex.1 hd h1 h3) (by rw [PyData.depth]; omega) (r1.append r2)
      rw [PyData.shownKv_eq] at hQ hsz
      refine call_dict_reprK ho ex.1 hd hy na (ReprEntriesK.of_two es.toList _ _ (q1.more_le (fun z hz => ?_) (Nat.le_refl _)) (q2.more_le (fun z hz => ?_) (Nat.le_refl _))) hg2 (fun b _ => Clear.nil b) hu2 hk0 hQ hsz
      · exact List.mem_append.mpr (.inl hz)
      · exact List.mem_append.mpr (.inr hz)
end Fld
/-! what a field, a list of fields, a setting is, over data of any kind -/
namespace Fld
open PySem PySem.Spec PyProof.Rows L2
def dBtw : PyData → Int → Int → Bool
  | .int i, a, b => decide (a ≤ i) && decide (i ≤ b)
  | _, _, _ => false
def dTxt : PyData → Int → Int → Bool
  | .str x, a, b => decide (a ≤ (x.length : Int)) && decide ((x.length : Int) ≤ b) && x.cps.toList.all isChar
  | _, _, _ => false
theorem Dv.btw {K : PySem.W.Frag} {H : Hp} {v : V} {d : PyData} (h : Dv K H v d) (a b : Int) : Fld.btw v a b = dBtw d a b := by cases h <;> rfl
theorem Dv.txt {K : PySem.W.Frag} {H : Hp} {v : V} {d : PyData} (h : Dv K H v d) (a b : Int) : Fld.txt v a b = dTxt d a b := by cases h <;> rfl
theorem nb {c : Bool} (e : (!c) = true) : c = false := by cases c <;> first | rfl | cases e
end Fld
/-! Errors of the program: a base of its own over ValueError, whose __init__ is called by name out of the __init__ of its heirs. -/
namespace Fld
open PySem PySem.Spec PyProof.Rows L2
section
variable {X : Cx} {e : Expr} {es : List Expr} {ta : TA} {x : Str} {FE : Addr} {mc : Value} {p1 p2 pos : Pos}
/-- what the written part says of the base -/
structure BaseC (K : PySem.W.Frag) (mg : Str → Option Value) (x : Str) (FE : Addr) (mc : Value) : Prop where
  g : mg x = some (.ref FE)
  rd : ClX.CRead K FE mc
  ini : PySem.W.findCls K (.ref FE) mc "__init__" = some (.val (.builtin "ValueError.__init__"))
theorem pe_feinit {pl : Sem Bool} (B : BaseC X.K X.mg x FE mc) (hg : Gl X x) (ha : PA X (e :: es) ta) (hdb : (x == ("__debug__" : Str)) = false := by decide)
    (hc : eval (.Call (.Attribute (.Name x p1) "__init__" p2) (e :: es) [] pos) X.env = (do
      let ov ← eval (.Name x p1) X.env
      standAt p2.atName
      let (f, first) ← holding [ov] (getMethod ov "__init__" pl)
      callWith pos f first (backTo pos (starEach (e :: es) X.env)) (backToKw pos (keywordEach [] X.env))) := by rfl)
    (he : starEach (e :: es) X.env = (false, eval e X.env) :: starEach es X.env := by rfl) (hpl : (backTo pos (starEach es X.env)).any (·.1) = false := by rfl) :
    PE X (.Call (.Attribute (.Name x p1) "__init__" p2) (e :: es) [] pos) (tVeI X.K ta) := by
  refine ⟨?_⟩
  intro pins s σ H Q I h
  refine PySem.W.methodCall_KW (ld_glob I hg B.g ?_ hdb) hc
  refine PySem.W.method_cls I.kIn B.rd.ga (PySem.W.cls_value I.kIn B.rd.rd B.ini rfl ?_)
  show wpAny _ _ (callWith pos (Value.builtin "ValueError.__init__") [] (backTo pos (starEach (e :: es) X.env)) []) _ _ _
  refine PyProof.Rows.callWith_method1 (thn (ha.run pos pins _ σ H _ (I.tok _) h) ?_) he hpl
  rintro us s1 ⟨vs, H1, I1, r1, a, C, ws, rfl, hl, TC, ea, q⟩
  cases r1 with
  | cons ra rw' =>
    cases (show _ = Value.ref a from ra)
    exact oinit_ok TC I1 ea (by rw [← Paired.length rw', sizeLine_eq]; omega) fun s' J => ⟨.non, H1, J, rfl, q⟩
end
/-- __init__ of an heir: its one argument is kept as the attribute f -/
def sp_err (C : Addr) (f : Str) : Sp := fun vs H Q _ => ∃ (a : Addr) (k : Int), vs = [.ref a, .int k] ∧ k.natAbs < 2 ^ 1000 ∧ H a = some (exo a C none) ∧
  ∀ dx, H dx = none → dx ≠ a → Q .non (upd (upd H dx (exd dx [(f, .int k)])) a (exo a C (some dx)))
/-- what the written part says of an heir at C, its __init__ at fI -/
structure ErrC (K : PySem.W.Frag) (mg : Str → Option Value) (x f : Str) (C fI : Addr) : Prop where
  ox : OexC K C
  g : mg x = some (.ref C)
  iC : PySem.W.findIn K (.ref C) "__init__" = some (some (.ref fI))
  tI : PySem.W.typeIn K (.ref fI) = some (.type "function")
  no : PySem.W.findIn K (.ref C) f = some none
/-- raise C(e): what its reading asks behind the argument -/
def tRaiseE (C : Addr) (f : Str) (W : WX) (ta : TA) : TS := fun _ σ H => tMkO C (sp_err C f) [] ta σ H fun cls d H' => W cls d σ H'
theorem ps_raiseE {X : Cx} {CX : CXT} {x f : Str} {C fI : Addr} {k : Nat} {fd : FuncData} {e : Expr} {ta : TA} {W : WX} {p pos pos2 : Pos} (hcalm : X.calm = true) (T : ErrC X.K X.mg x f C fI) (F1 : FnOk X.prog X.w X.K X.mg X.base CX k fI fd ["self", f] (sp_err C f)) (hr : Room (k + 1) X.A) (hb : Binds X.K fd ["self", f] [])
    (hx : Passes CX X (fun _ _ _ => False)) (tk : Takes X W) (hg : Gl X x) (ha : PA X [e] ta)
    (hdb : (x == ("__debug__" : Str)) = false := by decide) (he : starEach (e :: []) X.env = (false, eval e X.env) :: starEach [] X.env := by rfl) (hpl : (backTo pos (starEach [] X.env)).any (·.1) = false := by rfl) :
    PS X (.Raise (some (.Call (.Name x p) [e] [] pos)) none pos2) (tRaiseE C f W ta) :=
  ps_raise (pos := pos2) hcalm tk (pmk_oex (pos := pos) (p := p) T.ox T.iC T.tI F1 hr hb .nil hx hg T.g ha hdb he hpl)
/-- the error's own dict, new, holds the number; all that stood stands -/
theorem err_go {C : Addr} {f : Str} {k : Int} {H1 : Hp} {Q : Value → Option Addr → Hp → Prop} (hk : k.natAbs < 2 ^ 1000) (q : ∀ (d : Addr) H', Same H1 H' → H1 d = none → H' d = some (.xd [(f, .int k)]) → Q (.ref C) (some d) H') :
    ([V.int k] : List V).length ≤ 1000 ∧ ∀ a, H1 a = none → sp_err C f (.ref a :: ([.int k] ++ [])) (upd H1 a (exo a C none)) (fun v H2 => v = .non ∧ ∃ (d : Addr) (fs : List (Str × V)), H2 a = some (exo a C (some d)) ∧ H2 d = some (exd d fs) ∧ H1 d = none ∧ Q (.ref C) (some d) (upd (del H2 a) d (.xd fs))) (fun _ _ _ => False) := by
  refine ⟨by show 1 ≤ 1000; decide, fun a hna => ⟨a, k, rfl, hk, upd_same, fun dx hdx hda => ⟨rfl, dx, [(f, .int k)], upd_same, ?_, ?_, ?_⟩⟩⟩
  · rw [upd_ne hda, upd_same]
  · rw [upd_ne hda] at hdx; exact hdx
  · have hdx' : H1 dx = none := by rw [upd_ne hda] at hdx; exact hdx
    refine q dx _ (fun b o hb => ?_) hdx' upd_same
    have n1 : b ≠ dx := ne_of_none hb hdx'
    have n2 : b ≠ a := ne_of_none hb hna
    rw [upd_ne n1, del_ne n2, upd_ne n2, upd_ne n1, upd_ne n2]
    exact hb
/-- a plain heir: no __init__ of its own -/
structure PlainC (K : PySem.W.Frag) (mg : Str → Option Value) (x : Str) (C : Addr) (bm : List Value) : Prop where
  g : mg x = some (.ref C)
  x_ : PySem.W.excIn K C bm "ValueError.__new__" = true
  k_ : PySem.W.keepIn K (.ref C) = true
  b_ : PySem.W.subIn K (.ref C) (.type "BaseException") = some true
  t_ : PySem.W.typeIn K (.ref C) = some (.type "type")
/-- what an except clause asks of a base of the program's own -/
structure RootC (K : PySem.W.Frag) (C : Addr) : Prop where
  b_ : PySem.W.subIn K (.ref C) (.type "BaseException") = some true
  t_ : PySem.W.typeIn K (.ref C) = some (.type "type")
  d_ : PySem.W.hasDictIn K C = true
structure HeirC (K : PySem.W.Frag) (C FE : Addr) : Prop where
  b_ : PySem.W.subIn K (.ref C) (.type "BaseException") = some true
  t_ : PySem.W.typeIn K (.ref C) = some (.type "type")
  u_ : PySem.W.subIn K (.ref C) (.ref FE) = some true
theorem RootC.exm {K : PySem.W.Frag} {C FE : Addr} (r : RootC K FE) (h : HeirC K C FE) : PySem.W.exmOne K (.ref C) (.ref FE) = some true := PySem.W.exm_ref r.b_ r.d_ r.t_ h.u_
/-- text += text on a local -/
def ipT : TIp := fun x y H Q => ∃ i j, x = .str i ∧ y = .str j ∧ i.length + j.length ≤ sizeLine ∧ Q (.str (i ++ j)) H
theorem ip_addT {X : Cx} : PIp X .Add ipT := fun pins s σ H x y u v Q I rx ry h => iop_add_str pins s σ H x y u v Q I rx ry h
end Fld
/-! The reader of octets: its state, what its calls return or raise, by a mirror over the list of octets. -/
namespace Fld
open PySem PySem.Spec PyProof.Rows L2
/-- the reader at r, over the octets os at a, stands at place k -/
structure Rd (K : PySem.W.Frag) (C : Addr) (H : Hp) (r a : Addr) (os : List Int) (k : Nat) : Prop where
  ex : ∃ dx, H r = some (.ins C dx [("octets", .ref a), ("place", .int (k : Nat))])
  sq : SqL K H a (os.map V.int)
  ne : a ≠ r
  lt : ∀ o ∈ os, 0 ≤ o ∧ o < 256
  len : os.length ≤ 1000000
  le : k ≤ os.length
theorem Rd.keep {K : PySem.W.Frag} {C r a : Addr} {H H' : Hp} {os : List Int} {k : Nat} (h : Rd K C H r a os k) (s : Same H H') : Rd K C H' r a os k := by
  obtain ⟨dx, e⟩ := h.ex
  exact ⟨⟨dx, s _ _ e⟩, s.seq h.sq, h.ne, h.lt, h.len, h.le⟩
theorem Rd.get {K : PySem.W.Frag} {C r a : Addr} {H : Hp} {os : List Int} {k : Nat} (h : Rd K C H r a os k) {o : Int} (e : os[k]? = some o) : 0 ≤ o ∧ o < 256 := h.lt o (List.mem_of_getElem? e)
theorem Rd.end_ {K : PySem.W.Frag} {C r a : Addr} {H : Hp} {os : List Int} {k : Nat} (h : Rd K C H r a os k) (e : os[k]? = none) : k = os.length := by
  have := List.getElem?_eq_none_iff.mp e
  have := h.le
  omega
/-- an error with the place e -/
def RdErr (N r : Addr) (H : Hp) (E : XK) (e : Nat) : Prop := ∀ (d : Addr) H', But r H H' → H' d = some (.xd [("place", .int (e : Nat))]) → E (.ref N) (some d) H'
theorem RdErr.pre {N r : Addr} {H H1 : Hp} {E : XK} {e : Nat} (b : But r H H1) (h : RdErr N r H E e) : RdErr N r H1 E e := fun d H' b2 hd => h d H' (b.trans b2) hd
/-- a call: a value, the place moved; or the error -/
def RdRes {α : Type} (K : PySem.W.Frag) (C N r a : Addr) (os : List Int) (H : Hp) (Q : VK) (E : XK) (R : α → V → Hp → Prop) : Except Nat (α × Nat) → Prop
  | .ok (x, k') => ∀ v H', But r H H' → Rd K C H' r a os k' → R x v H' → Q v H'
  | .error e => RdErr N r H E e
theorem lenL {K : PySem.W.Frag} {H : Hp} {a : Addr} {xs : List V} (h : SqL K H a xs) : LenV K (.ref a) H xs.length := .inl ⟨xs, h, rfl⟩
theorem small_int {K : PySem.W.Frag} {C r a : Addr} {H : Hp} {os : List Int} {k : Nat} (h : Rd K C H r a os k) : ((k : Nat) : Int).natAbs < 2 ^ 1000 := by
  have h1 := h.le
  have h2 := h.len
  have h3 : (1000001 : Nat) < 2 ^ 1000 := by decide +kernel
  rw [Int.natAbs_natCast]
  omega
/-! ### mirrors -/
def takeRest (most : Int) : List Int → Nat → Int → Int → Except Nat (Int × Nat)
  | [], k, _, _ => .error k
  | o :: l, k, r, w =>
    if 128 ≤ o then (if r + (o - 128) * w + w * 128 ≤ most then takeRest most l (k + 1) (r + (o - 128) * w) (w * 128) else .error k)
    else if r + o * w ≤ most ∧ (0 < o ∨ w = 1) then .ok (r + o * w, k + 1) else .error k
def takeNum (os : List Int) (b m : Nat) (least most : Int) (k : Nat) : Except Nat (Int × Nat) :=
  match os[k]? with
  | none => .error k
  | some o => if least ≤ o - m ∧ o - m ≤ min ((2 ^ b - 1 : Nat) : Int) most then
      (if o - m < ((2 ^ b - 1 : Nat) : Int) then .ok (o - m, k + 1)
       else (takeRest (most - ((2 ^ b - 1 : Nat) : Int)) (os.drop (k + 1)) (k + 1) 0 1).map fun z => (((2 ^ b - 1 : Nat) : Int) + z.1, z.2))
    else .error k
def takeChars : Nat → List Int → Nat → Except Nat (List Nat × Nat)
  | 0, _, k => .ok ([], k)
  | _ + 1, [], k => .error k
  | n + 1, o :: l, k => if isChar o.toNat then (takeChars n l (k + 1)).map fun z => (o.toNat :: z.1, z.2) else .error k
def takeStr (os : List Int) (b m : Nat) (least most : Int) (k : Nat) : Except Nat (Str × Nat) :=
  match takeNum os b m least most k with
  | .error e => .error e
  | .ok (n, k1) => (takeChars n.toNat (os.drop k1) k1).map fun z => (⟨z.1.toArray⟩, z.2)
theorem takeRest_bound (most : Int) : ∀ (l : List Int) (k : Nat) (r w : Int) (n : Int) (k1 : Nat), 0 ≤ r → 0 ≤ w → (∀ o ∈ l, 0 ≤ o) → takeRest most l k r w = .ok (n, k1) → 0 ≤ n ∧ n ≤ most
  | [], k, r, w, n, k1, _, _, _, h => by rw [takeRest] at h; cases h
  | o :: l, k, r, w, n, k1, hr, hw, ho, h => by
    have ho1 := ho o (List.mem_cons_self ..)
    have hm := Int.mul_nonneg ho1 hw
    rw [takeRest] at h
    by_cases h1 : 128 ≤ o
    · rw [if_pos h1] at h
      by_cases h2 : r + (o - 128) * w + w * 128 ≤ most
      · rw [if_pos h2] at h
        have := Int.mul_nonneg (show 0 ≤ o - 128 by omega) hw
        exact takeRest_bound most l _ _ _ n k1 (by omega) (by omega) (fun x hx => ho x (List.mem_cons_of_mem _ hx)) h
      · rw [if_neg h2] at h; cases h
    · rw [if_neg h1] at h
      by_cases h2 : r + o * w ≤ most ∧ (0 < o ∨ w = 1)
      · rw [if_pos h2] at h
        cases h
        exact ⟨by omega, h2.1⟩
      · rw [if_neg h2] at h; cases h
theorem takeNum_bound (os : List Int) (b m : Nat) (least most : Int) (k : Nat) (hos : ∀ o ∈ os, 0 ≤ o) : ∀ n k1, takeNum os b m least most k = .ok (n, k1) → least ≤ n ∧ n ≤ most := by
  intro n k1 h
  rw [takeNum] at h
  cases ho : os[k]? with
  | none => rw [ho] at h; cases h
  | some o =>
    rw [ho] at h
    dsimp only at h
    have hp0 := pow_pos2 b
    by_cases h1 : least ≤ o - (m : Int) ∧ o - (m : Int) ≤ min ((2 ^ b - 1 : Nat) : Int) most
    · rw [if_pos h1] at h
      by_cases h2 : o - (m : Int) < ((2 ^ b - 1 : Nat) : Int)
      · rw [if_pos h2] at h
        cases h
        omega
      · rw [if_neg h2] at h
        cases ht : takeRest (most - ((2 ^ b - 1 : Nat) : Int)) (os.drop (k + 1)) (k + 1) 0 1 with
        | error z => rw [ht] at h; cases h
        | ok z =>
          rw [ht] at h
          cases h
          have := takeRest_bound _ _ _ _ _ z.1 z.2 (by decide) (by decide) (fun x hx => hos x (List.mem_of_mem_drop hx)) ht
          omega
    · rw [if_neg h1] at h; cases h
def rInt : Int → V → Hp → Prop := fun z v _ => v = .int z
def rStr : Str → V → Hp → Prop := fun x v _ => v = .str x
/-! ### what is promised -/
def sp_Reader_init (K : PySem.W.Frag) : Sp := fun vs H Q _ => ∃ (r a C dx : Addr), vs = [.ref r, .ref a] ∧ H r = some (.ins C dx []) ∧ Cls K C ∧ NoAttr K C "octets" ∧ NoAttr K C "place" ∧
  ∀ H', (∀ b, b ≠ r → H' b = H b) → H' r = some (.ins C dx [("octets", .ref a), ("place", .int 0)]) → Q .non H'
def sp_Reader_at_end (K : PySem.W.Frag) (C : Addr) : Sp := fun vs H Q _ => ∃ (r a : Addr) (os : List Int) (k : Nat), vs = [.ref r] ∧ Rd K C H r a os k ∧ Q (.bl (decide (k = os.length))) H
def sp_Reader_look (K : PySem.W.Frag) (C N : Addr) : Sp := fun vs H Q E => ∃ (r a : Addr) (os : List Int) (k : Nat), vs = [.ref r] ∧ Rd K C H r a os k ∧ (os[k]? = none → RdErr N r H E k) ∧ ∀ o, os[k]? = some o → Q (.int o) H
def sp_Reader_accept (K : PySem.W.Frag) (C N : Addr) : Sp := fun vs H Q E => ∃ (r a : Addr) (os : List Int) (k : Nat) (b : Bool), vs = [.ref r, .bl b] ∧ Rd K C H r a os k ∧ k < os.length ∧ (b = false → RdErr N r H E k) ∧
  (b = true → ∀ H', But r H H' → Rd K C H' r a os (k + 1) → Q .non H')
theorem RdRes.pre {α : Type} {K : PySem.W.Frag} {C N r a : Addr} {os : List Int} {H H1 : Hp} {Q : VK} {E : XK} {R : α → V → Hp → Prop} {x : Except Nat (α × Nat)} (b : But r H H1) (h : RdRes K C N r a os H Q E R x) : RdRes K C N r a os H1 Q E R x := by
  cases x with
  | error e => exact RdErr.pre b h
  | ok z => exact fun v H' b2 R2 hv => h v H' (b.trans b2) R2 hv
def sp_Reader_finish (K : PySem.W.Frag) (C N : Addr) : Sp := fun vs H Q E => ∃ (r a : Addr) (os : List Int) (k : Nat), vs = [.ref r] ∧ Rd K C H r a os k ∧ (k ≠ os.length → RdErr N r H E k) ∧ (k = os.length → Q .non H)
def sp_Reader_take_rest (K : PySem.W.Frag) (C N : Addr) : Sp := fun vs H Q E => ∃ (r a : Addr) (os : List Int) (k : Nat) (most : Int), vs = [.ref r, .int most] ∧ Rd K C H r a os k ∧ most ≤ 1000000 ∧ RdRes K C N r a os H Q E rInt (takeRest most (os.drop k) k 0 1)
def sp_Reader_take_number (K : PySem.W.Frag) (C N : Addr) : Sp := fun vs H Q E => ∃ (r a : Addr) (os : List Int) (k b m : Nat) (least most : Int), vs = [.ref r, .int (b : Nat), .int (m : Nat), .int least, .int most] ∧ Rd K C H r a os k ∧ b ≤ 8 ∧ most ≤ 1000000 ∧
  RdRes K C N r a os H Q E rInt (takeNum os b m least most k)
def sp_Reader_take_string (K : PySem.W.Frag) (C N : Addr) : Sp := fun vs H Q E => ∃ (r a : Addr) (os : List Int) (k b m : Nat) (least most : Int), vs = [.ref r, .int (b : Nat), .int (m : Nat), .int least, .int most] ∧ Rd K C H r a os k ∧ b ≤ 8 ∧ 0 ≤ least ∧ most ≤ 10000 ∧
  RdRes K C N r a os H Q E rStr (takeStr os b m least most k)
def sp_Reader_take_name (K : PySem.W.Frag) (C N : Addr) : Sp := fun vs H Q E => ∃ (r a : Addr) (os : List Int) (k b m : Nat), vs = [.ref r, .int (b : Nat), .int (m : Nat)] ∧ Rd K C H r a os k ∧ b ≤ 8 ∧ RdRes K C N r a os H Q E rStr (takeStr os b m 1 20 k)
def sp_Reader_take_value (K : PySem.W.Frag) (C N : Addr) : Sp := fun vs H Q E => ∃ (r a : Addr) (os : List Int) (k : Nat), vs = [.ref r] ∧ Rd K C H r a os k ∧ RdRes K C N r a os H Q E rStr (takeStr os 7 0 0 40 k)
end Fld
/-! Instructions and answers: their values, their octets, what is read of octets. -/
namespace Fld
open PySem PySem.Spec PyProof.Rows L2
/-- a list of any values of a kind, or a value of another kind: what comes for each -/
def AnyL (K : PySem.W.Frag) (H : Hp) (v : V) (Y : List V → Prop) (N : Prop) : Prop :=
  (∃ a xs, v = .ref a ∧ SqL K H a xs ∧ xs.length ≤ 1000000 ∧ (∀ x ∈ xs, ∃ t, Kind K H x t) ∧ Y xs) ∨ ∃ t, Kind K H v t ∧ (t == "list") = false ∧ N
/-- .. the list one of the heap -/
def AnyH (K : PySem.W.Frag) (H : Hp) (v : V) (Y : List V → Prop) (N : Prop) : Prop :=
  (∃ a xs, v = .ref a ∧ H a = some (.lst xs) ∧ xs.length ≤ 1000000 ∧ (∀ x ∈ xs, ∃ t, Kind K H x t) ∧ Y xs) ∨ ∃ t, Kind K H v t ∧ (t == "list") = false ∧ N
def octV (xs : List V) : Bool := xs.all fun x => btw x 0 255
def sp_are_octets (K : PySem.W.Frag) : Sp := fun vs H Q _ => ∃ v, vs = [v] ∧ AnyL K H v (fun xs => ∀ H', Same H H' → Q (.bl (octV xs)) H') (∀ H', Same H H' → Q (.bl false) H')
def sp_check_octets (K : PySem.W.Frag) (N : Addr) : Sp := fun vs H Q E => ∃ v, vs = [v] ∧ AnyL K H v (fun xs => ∀ H', Same H H' → if octV xs = true then Q .non H' else E (.ref N) none H') (∀ H', Same H H' → E (.ref N) none H')
def strOct (x : Str) (b m : Nat) : List Int := numOct x.length b m ++ x.cps.toList.map fun (c : Nat) => (c : Int)
inductive Ins where
  | again (n : Nat) | limit (n : Nat) | fixed (n : Nat) (x : Str) | entry (n : Nat) (x : Str) | new (y x : Str)
def Ins.vs : Ins → List V
  | .again n => [.str "again", .int n]
  | .limit n => [.str "limit", .int n]
  | .fixed n x => [.str "fixed", .int n, .str x]
  | .entry n x => [.str "entry", .int n, .str x]
  | .new y x => [.str "new", .str y, .str x]
def Ins.Ok : Ins → Prop
  | .again n => n ≤ 9999
  | .limit n => n ≤ 9999
  | .fixed n x => n ≤ 9999 ∧ txt (.str x) 0 40 = true
  | .entry n x => n ≤ 9999 ∧ txt (.str x) 0 40 = true
  | .new y x => txt (.str y) 1 20 = true ∧ txt (.str x) 0 40 = true
def Ins.oct : Ins → List Int
  | .again n => numOct n 5 0
  | .limit n => numOct n 5 32
  | .fixed n x => numOct n 6 192 ++ strOct x 7 0
  | .entry n x => numOct n 6 128 ++ strOct x 7 0
  | .new y x => strOct y 5 64 ++ strOct x 7 0
/-- the value v is the instruction i -/
def InsV (K : PySem.W.Frag) (H : Hp) (v : V) (i : Ins) : Prop := ∃ a, v = .ref a ∧ SqT K H a i.vs
inductive Ans where
  | done (n : Nat) | cancelled (n : Nat) | received (n : Nat)
def Ans.vs : Ans → List V
  | .done n => [.str "done", .int n]
  | .cancelled n => [.str "cancelled", .int n]
  | .received n => [.str "received", .int n]
def Ans.Ok : Ans → Prop
  | .done n => n ≤ 20
  | .cancelled n => n ≤ 20
  | .received n => 1 ≤ n ∧ n ≤ 9999
def Ans.oct : Ans → List Int
  | .done n => numOct n 7 128
  | .cancelled n => numOct n 6 64
  | .received n => numOct n 6 0
def AnsV (K : PySem.W.Frag) (H : Hp) (v : V) (i : Ans) : Prop := ∃ a, v = .ref a ∧ SqT K H a i.vs
/-! ### reading -/
def takeSrc (os : List Int) (k : Nat) : Except Nat ((Str ⊕ Bool × Nat) × Nat) :=
  match os[k]? with
  | none => .error k
  | some o => if 192 ≤ o then (takeNum os 6 192 0 9999 k).map fun z => (.inr (true, z.1.toNat), z.2)
    else if 128 ≤ o then (takeNum os 6 128 0 9999 k).map fun z => (.inr (false, z.1.toNat), z.2)
    else (takeStr os 5 64 1 20 k).map fun z => (.inl z.1, z.2)
def srcIns (x : Str) : Str ⊕ Bool × Nat → Ins
  | .inl y => .new y x
  | .inr (true, n) => .fixed n x
  | .inr (false, n) => .entry n x
def takeIns (os : List Int) (k : Nat) : Except Nat (Ins × Nat) :=
  match os[k]? with
  | none => .error k
  | some o => if o < 32 then (takeNum os 5 0 0 9999 k).map fun z => (.again z.1.toNat, z.2)
    else if o < 64 then (takeNum os 5 32 0 9999 k).map fun z => (.limit z.1.toNat, z.2)
    else match takeSrc os k with
      | .error e => .error e
      | .ok (s, k1) => (takeStr os 7 0 0 40 k1).map fun z => (srcIns z.1 s, z.2)
def takeAns (os : List Int) (k : Nat) : Except Nat (Ans × Nat) :=
  match os[k]? with
  | none => .error k
  | some o => if 128 ≤ o then (takeNum os 7 128 0 20 k).map fun z => (.done z.1.toNat, z.2)
    else if 64 ≤ o then (takeNum os 6 64 0 20 k).map fun z => (.cancelled z.1.toNat, z.2)
    else (takeNum os 6 0 1 9999 k).map fun z => (.received z.1.toNat, z.2)
/-- read to the end -/
def whole {α : Type} (os : List Int) (f : List Int → Nat → Except Nat (α × Nat)) : Except Nat α :=
  match f os 0 with
  | .error e => .error e
  | .ok (x, k) => if k = os.length then .ok x else .error k
def srcVs : Str ⊕ Bool × Nat → List V
  | .inl y => [.str "new", .str y]
  | .inr (true, n) => [.str "fixed", .int n]
  | .inr (false, n) => [.str "entry", .int n]
def rSrc (K : PySem.W.Frag) : Str ⊕ Bool × Nat → V → Hp → Prop := fun s v H => ∃ a, v = .ref a ∧ SqT K H a (srcVs s)
def rIns (K : PySem.W.Frag) : Ins → V → Hp → Prop := fun i v H => InsV K H v i
def rAns (K : PySem.W.Frag) : Ans → V → Hp → Prop := fun i v H => AnsV K H v i
def sp_take (K : PySem.W.Frag) (C N : Addr) {α : Type} (f : List Int → Nat → Except Nat (α × Nat)) (R : α → V → Hp → Prop) : Sp := fun vs H Q E => ∃ (r a : Addr) (os : List Int) (k : Nat), vs = [.ref r] ∧ Rd K C H r a os k ∧ RdRes K C N r a os H Q E R (f os k)
def RdEnd {α : Type} (N : Addr) (H : Hp) (Q : VK) (E : XK) (R : α → V → Hp → Prop) : Except Nat α → Prop
  | .ok x => ∀ v H', Same H H' → R x v H' → Q v H'
  | .error e => ∀ (d : Addr) H', Same H H' → H' d = some (.xd [("place", .int (e : Nat))]) → E (.ref N) (some d) H'
def sp_read (K : PySem.W.Frag) (N M : Addr) {α : Type} (f : List Int → Nat → Except Nat (α × Nat)) (R : α → V → Hp → Prop) : Sp := fun vs H Q E => ∃ v, vs = [v] ∧ AnyH K H v
  (fun xs => if octV xs = true then ∃ os : List Int, xs = os.map V.int ∧ RdEnd N H Q E R (whole os f)
   else ∀ H', Same H H' → E (.ref M) none H') (∀ H', Same H H' → E (.ref M) none H')
def sp_write_ins (K : PySem.W.Frag) : Sp := fun vs H Q _ => ∃ (v : V) (i : Ins), vs = [v] ∧ InsV K H v i ∧ i.Ok ∧ RetInts i.oct H Q
def sp_write_ans (K : PySem.W.Frag) : Sp := fun vs H Q _ => ∃ (v : V) (i : Ans), vs = [v] ∧ AnsV K H v i ∧ i.Ok ∧ RetInts i.oct H Q
theorem txt_len20 {x : Str} (h : txt (.str x) 1 20 = true) : 1 ≤ x.length ∧ x.length ≤ 20 := by
  have h' : (decide ((1 : Int) ≤ x.length) && decide ((x.length : Int) ≤ 20) && x.cps.toList.all isChar) = true := h
  rw [Bool.and_eq_true, Bool.and_eq_true] at h'
  have h1 := of_decide_eq_true h'.1.1
  have h2 := of_decide_eq_true h'.1.2
  omega
theorem txt_20 {x : Str} (h : txt (.str x) 1 20 = true) : txt (.str x) 0 40 = true := by
  have := txt_len20 h
  exact txt_of (by omega) (by omega) (txt_all h)
theorem RetInts.pre {ns : List Int} {H H1 : Hp} {Q : VK} (s : Same H H1) (h : RetInts ns H Q) : RetInts ns H1 Q := fun p H' hp s2 e => h p H' (s.free hp) (s.trans s2) e
theorem cat_go {a b : List Int} {H H3 : Hp} {Q : VK} {p1 p2 : Addr} (q : RetInts (a ++ b) H Q) (s : Same H H3) (g1 : H3 p1 = some (.lst (a.map V.int))) (g2 : H3 p2 = some (.lst (b.map V.int))) (hl : a.length + b.length ≤ 1000000) : rCat (.ref p1) (.ref p2) H3 Q := by
  refine ⟨p1, p2, _, _, rfl, rfl, g1, g2, by rw [List.length_map, List.length_map, sizeLine_eq]; omega, fun r hr => ?_⟩
  refine q r _ (s.free hr) (s.put (s.free hr)) ?_
  rw [upd_same, List.map_append]
theorem strOct_len {x : Str} {b m : Nat} (h : x.length ≤ 40) : (strOct x b m).length ≤ 100 := by
  unfold strOct
  have := numOct_len x.length b m
  rw [List.length_append, List.length_map, ← str_len]
  omega
/-- from a call's result to what is made of it -/
theorem res_map {α β : Type} {K : PySem.W.Frag} {C N r a : Addr} {os : List Int} {H : Hp} {Q Q' : VK} {E : XK} {Ra : α → V → Hp → Prop} {Rb : β → V → Hp → Prop} {x : Except Nat (α × Nat)} {f : α × Nat → β × Nat}
    (q : RdRes K C N r a os H Q E Rb (x.map f)) (hf : ∀ z, (f z).2 = z.2) (h : ∀ z v H1, x = .ok z → But r H H1 → Rd K C H1 r a os z.2 → Ra z.1 v H1 → (∀ v' H2, Same H1 H2 → Rb (f z).1 v' H2 → Q v' H2) → Q' v H1) : RdRes K C N r a os H Q' E Ra x := by
  cases x with
  | error e => exact q
  | ok z =>
    intro v H1 b1 R1 hv
    refine h z v H1 rfl b1 R1 hv fun v' H2 s2 hv' => q v' H2 (b1.trans (But.of s2)) ?_ hv'
    rw [hf z]
    exact R1.keep s2
theorem oct_list {xs : List V} (h : octV xs = true) : ∃ os : List Int, xs = os.map V.int ∧ ∀ o ∈ os, 0 ≤ o ∧ o < 256 := by
  induction xs with
  | nil => exact ⟨[], rfl, fun o ho => nomatch ho⟩
  | cons x xs ih =>
    have h' : (btw x 0 255 && octV xs) = true := h
    rw [Bool.and_eq_true] at h'
    obtain ⟨os, e, ho⟩ := ih h'.2
    cases x with
    | int i =>
      have h2 : (decide ((0 : Int) ≤ i) && decide (i ≤ 255)) = true := h'.1
      rw [Bool.and_eq_true] at h2
      have h3 := of_decide_eq_true h2.1
      have h4 := of_decide_eq_true h2.2
      refine ⟨i :: os, by rw [e]; rfl, fun o hm => ?_⟩
      rcases List.mem_cons.mp hm with z | z
      · subst z; omega
      · exact ho o z
    | _ => exact nomatch (show false = true from h'.1)
theorem same_but {r : Addr} {H H1 H2 : Hp} (hr : H r = none) (s : Same H H1) (b : But r H1 H2) : Same H H2 := fun c o e => b c o (ne_of_none e hr) (s c o e)
end Fld
/-! data apart from the pen: what is drawn, what is laid new -/
namespace Fld
open PySem PySem.Spec PyProof.Rows L2
/-- the heap but for some objects -/
def OffS (S : List Addr) (H : Hp) : Hp := fun b => if b ∈ S then none else H b
/-- these objects are there -/
def Hid (S : List Addr) (H : Hp) : Prop := ∀ b ∈ S, H b ≠ none
section
variable {K : PySem.W.Frag} {p c q : Addr} {H H' H1 H2 : Hp} {o : HO} {n m : Nat} {S : List Addr}
theorem off_sub (S : List Addr) (H : Hp) : Same (OffS S H) H := fun b u e => by
  unfold OffS at e
  by_cases h : b ∈ S
  · rw [if_pos h] at e; cases e
  · rw [if_neg h] at e; exact e
theorem off_ne {b : Addr} (h : b ∉ S) : OffS S H b = H b := by unfold OffS; rw [if_neg h]
theorem off_get {b : Addr} (h : OffS S H b = some o) : b ∉ S ∧ H b = some o := by
  unfold OffS at h
  by_cases e : b ∈ S
  · rw [if_pos e] at h; cases h
  · rw [if_neg e] at h; exact ⟨e, h⟩
theorem But.off (b : But p H H') (hp : p ∈ S) : Same (OffS S H) (OffS S H') := fun a u e => by
  obtain ⟨n, e⟩ := off_get e
  rw [off_ne n]
  exact b a u (fun z => n (z ▸ hp)) e
theorem _root_.L2.Same.off (s : Same H H') : Same (OffS S H) (OffS S H') := fun a u e => by
  obtain ⟨n, e⟩ := off_get e
  rw [off_ne n]
  exact s a u e
theorem Drew.off (d : Drew p c H H' n) (hp : p ∈ S) : Same (OffS S H) (OffS S H') := d.but.off hp
theorem Dv.on {v : V} {d : PyData} (h : Dv K (OffS S H) v d) : Dv K H v d := h.keep (off_sub S H)
theorem DvAll.on {v : List V} {d : List PyData} (h : DvAll K (OffS S H) v d) : DvAll K H v d := h.keep (off_sub S H)
theorem Hid.keep (h : Hid S H) (s : Same H H') : Hid S H' := fun b hb => by
  cases e : H b with
  | none => exact absurd e (h b hb)
  | some u => rw [s b u e]; exact fun z => nomatch z
theorem Pen.some_ (h : Pen H p c n) : H p ≠ none := by
  obtain ⟨⟨xs, e⟩, _⟩ := h.some
  rw [e]; exact fun z => nomatch z
theorem Hid.drew (h : Hid S H) (d : Drew p c H H' n) : Hid S H' := fun b hb => by
  by_cases z : b = p
  · rw [z]; exact d.pen.some_
  · cases e : H b with
    | none => exact absurd e (h b hb)
    | some u => rw [d.but b u z e]; exact fun z => nomatch z
theorem Hid.one (h : Pen H p c n) : Hid [p] H := fun b hb => by rw [List.mem_singleton.mp hb]; exact h.some_
theorem Hid.nil : Hid [] H := fun b hb => nomatch hb
theorem Hid.cons (h : Hid S H) (hq : H q ≠ none) : Hid (q :: S) H := fun b hb => by
  rcases List.mem_cons.mp hb with rfl | hb
  · exact hq
  · exact h b hb
theorem Hid.not (h : Hid S H) (hq : H q = none) : q ∉ S := fun z => h q z hq
theorem Hid.upd (h : Hid S H) : Hid S (L2.upd H q o) := fun b hb => by
  by_cases z : b = q
  · rw [z, upd_same]; exact fun z => nomatch z
  · rw [upd_ne z]; exact h b hb
/-- a new object is laid beside the hidden ones -/
theorem off_new (hq : H q = none) (hS : Hid S H) : OffS S (upd H q o) q = some o := by rw [off_ne (hS.not hq), upd_same]
/-- a hidden object turns, and is hidden no more -/
theorem off_put : Same (OffS (q :: S) H) (OffS S (upd H q o)) := fun b u e => by
  obtain ⟨n, e⟩ := off_get e
  have nq : b ≠ q := fun z => n (by rw [z]; exact List.mem_cons_self ..)
  rw [off_ne fun z => n (List.mem_cons_of_mem _ z), upd_ne nq]
  exact e
theorem off_more (hq : H q = none) : Same (OffS S H) (OffS (q :: S) H) := fun b u e => by
  obtain ⟨n, e⟩ := off_get e
  rw [off_ne fun z => ?_]
  · exact e
  · rcases List.mem_cons.mp z with rfl | z
    · rw [hq] at e; cases e
    · exact n z
theorem off_less : Same (OffS (q :: S) H) (OffS S H) := fun b u e => by
  obtain ⟨n, e⟩ := off_get e
  rw [off_ne fun z => n (List.mem_cons_of_mem _ z)]
  exact e
theorem Pen.new (h : Pen H p c n) (hq : H q = none) : Pen (L2.upd H q o) p c n := h.keep (Same.new hq)
theorem DvAll.mem {xs : List V} {ds : List PyData} {x : V} (h : DvAll K H xs ds) (hx : x ∈ xs) : ∃ d ∈ ds, Dv K H x d := by
  obtain ⟨i, hi, rfl⟩ := List.mem_iff_getElem.mp hx
  obtain ⟨d, hd, hv⟩ := h.at (i := i) (x := xs[i]) (by simp)
  exact ⟨d, List.mem_of_getElem? hd, hv⟩
theorem DvAll.of : ∀ {xs : List V}, (∀ x ∈ xs, ∃ d, Dv K H x d) → ∃ ds, DvAll K H xs ds
  | [], _ => ⟨[], .nil⟩
  | x :: xs, h => by
    obtain ⟨d, hd⟩ := h x (List.mem_cons_self ..)
    obtain ⟨ds, hds⟩ := DvAll.of (xs := xs) fun y hy => h y (List.mem_cons_of_mem _ hy)
    exact ⟨d :: ds, .cons hd hds⟩
end
/-- data that is small: at most d deep, at most b of weight -/
structure Sz (b k : Nat) (d : PyData) : Prop where
  ok : okV d = true
  w : wV d ≤ b
  dp : d.depth ≤ k
theorem Sz.mono {b k b' k' : Nat} {d : PyData} (h : Sz b k d) (l1 : b ≤ b') (l2 : k ≤ k') : Sz b' k' d := ⟨h.ok, Nat.le_trans h.w l1, Nat.le_trans h.dp l2⟩
theorem sz_lst' {b k : Nat} {ds : List PyData} (h1 : okVAll ds = true) (h2 : wVAll ds + 4 ≤ b) (h3 : PyData.depthAll ds ≤ k) : Sz b (k + 1) (.list ds) := ⟨by rw [okV]; exact h1, by rw [wV]; exact h2, by rw [PyData.depth]; omega⟩
theorem sz_int {i : Int} (h : i.natAbs < 2 ^ 1000 := by decide +kernel) : Sz 1010 0 (.int i) := ⟨decide_eq_true h, Nat.le_refl _, by rw [PyData.depth]; omega⟩
end Fld
namespace Fld
open PySem PySem.Spec PyProof.Rows L2
def insD (ds : List PyData) (i : Nat) (d : PyData) : List PyData := ds.take i ++ [d] ++ ds.drop i
theorem DvAll.ins {K : PySem.W.Frag} {H : Hp} {xs : List V} {ds : List PyData} {x : V} {d : PyData} (i : Nat) (h : DvAll K H xs ds) (hx : Dv K H x d) : DvAll K H (xs.take i ++ [x] ++ xs.drop i) (insD ds i d) := ((h.take i).app (.cons hx .nil)).app (h.drop i)
end Fld
namespace Fld
open PySem PySem.Spec PyProof.Rows L2
end Fld
namespace Fld
open PySem PySem.Spec PyProof.Rows L2
section
variable {K : PySem.W.Frag} {p c q D : Addr} {H H' H1 H2 Ha H4 : Hp} {o : HO} {n m k b e : Nat} {S : List Addr} {f : PyData → Prop}
theorem off_hid (h : q ∈ S) : Same (OffS S H) (OffS S (upd H q o)) := fun a u e => by
  obtain ⟨n, e⟩ := off_get e
  have na : a ≠ q := fun z => n (by rw [z]; exact h)
  rw [off_ne n, upd_ne na]
  exact e
/-- a list of drawn data under way at D -/
structure LcI (K : PySem.W.Frag) (p c D : Addr) (S : List Addr) (Ha : Hp) (n k b e : Nat) (f : PyData → Prop) (i : Nat) (ys : List V) (H' : Hp) : Prop where
  drew : Drew p c Ha H' (n + k * i)
  ex : ∃ ds, DvAll K (OffS (D :: S) H') ys ds ∧ ∀ d ∈ ds, Sz b e d ∧ f d
theorem LcI.start (hp : Pen Ha p c n) (hD : Ha D = none) : LcI K p c D S Ha n k b e f 0 [] (upd Ha D (.lst [])) :=
  ⟨⟨(hp.new hD).mono (by omega), But.new hD⟩, [], .nil, fun d hd => nomatch hd⟩
theorem LcI.step {i : Nat} {ys : List V} {v : V} {d : PyData} (I : LcI K p c D S Ha n k b e f i ys H') (hp : Pen Ha p c n) (pS : p ∈ S) (hD : Ha D = none) (g : H' D = some (.lst ys)) (hv : Dv K (OffS (D :: S) H4) v d) (hz : Sz b e d) (hf : f d) (h4 : Drew p c H' H4 (n + k * i + k)) :
    H4 D = some (.lst ys) ∧ LcI K p c D S Ha n k b e f (i + 1) (ys ++ [v]) (upd H4 D (.lst (ys ++ [v]))) := by
  have nD : D ≠ p := fun z => hp.some_ (z ▸ hD)
  have nC : c ≠ D := hp.nec hD
  obtain ⟨ds, hds, ha⟩ := I.ex
  refine ⟨h4.but _ _ nD g, ⟨⟨(h4.pen.upd (fun z => nD z.symm) nC).mono (by rw [Nat.mul_succ]; omega), (I.drew.but.trans h4.but).put hD⟩, ds ++ [d], ?_, ?_⟩⟩
  · exact (((hds.keep (h4.off (List.mem_cons_of_mem _ pS))).app (.cons hv .nil))).keep (off_hid (List.mem_cons_self ..))
  · intro x hx
    rcases List.mem_append.mp hx with h | h
    · exact ha x h
    · rw [List.mem_singleton.mp h]; exact ⟨hz, hf⟩
end
end Fld
/-! an error that an except clause hands to a local: it stays known behind the clause; isinstance of it -/
namespace Fld
open PySem PySem.Spec PyProof.Rows L2
/-- a caught error of the class cls, its own dict d, at a -/
def ExK (cls : Value) (d : Option Addr) (a : Addr) : HO := .ext fun h => ∃ (oe : Obj) (vs : Array Value), h.get? a = some oe ∧ Zc cls d oe ∧ oe.data = .fields vs
section
variable {X : Cx} {pins : List (Addr × Obj)} {σ : L2.St} {H : Hp} {s : Shared} {a : Addr} {oe : Obj} {cls : Value} {d : Option Addr}
theorem adopt (I : Inv X pins σ H s) (ha : s.heap.get? a = some oe) (hz : Zc cls d oe) (hf : ∃ vs, oe.data = .fields vs) (na : H a = none) (n0 : X.s_0.heap.get? a = none) (nL : a ≠ X.env.locals) (np : ∀ p ∈ X.pn ++ pins, p.1 ≠ a) :
    Inv X pins σ (upd H a (ExK cls d a)) s := by
  obtain ⟨vs, hv⟩ := hf
  have nw : ObjOk X.prog X.w (upd H a (ExK cls d a)) s.heap a (ExK cls d a) := ⟨⟨oe, vs, ha, hz, hv⟩, ⟨oe, ha⟩, fun h1 h2 ⟨o, v, q1, q2⟩ k => ⟨o, v, k o q1, q2⟩⟩
  have b := I.base
  have apart : ∀ c o, X.s_0.heap.get? c = some o → c ≠ a := fun c o e z => by rw [z, n0] at e; cases e
  have got : ∀ (c : Addr) (u : HO), H c = some u → upd H a (ExK cls d a) c = some u := fun c u e => by rw [upd_ne (ne_of_none e na)]; exact e
  refine ⟨I.ok, I.os, I.bare, ⟨b.keep, b.slot, fun c o e n hx => ?_, b.there, fun c xs e => got _ _ (b.tups c xs e), fun c o u e => got _ _ (b.frzs c o u e), fun c ps e => ?_⟩, I.loc, I.cell, ?_, fun x c e => ?_, fun p hp => ?_, ?_, I.len⟩
  · rw [upd_ne (apart c o e)]
    exact b.free c o e n hx
  · obtain ⟨m, e2⟩ := b.tbls c ps e
    exact ⟨m, got _ _ e2⟩
  · rw [upd_ne (Ne.symm nL)]
    exact I.free
  · obtain ⟨v, o, e1, e2⟩ := I.cell x c e
    have nc : c ≠ a := fun z => by
      rw [z, ha] at e1
      cases e1
      rw [hv] at e2
      simp at e2
    rw [upd_ne nc]
    exact I.freeC x c e
  · obtain ⟨q1, q2, q3⟩ := I.pin p hp
    exact ⟨q1, by rw [upd_ne (np p hp)]; exact q2, q3⟩
  · exact I.hok.laidN (fun _ _ z => z) na nw
end
/-- what a clause 'except x as n' wishes, whose error stays known -/
def wKeep (K : PySem.W.Frag) (c : Value) (i : Nat) (ts : Addr → Value → Option Addr → TS) (Wout : WX) (D : Ends) : WX := fun cls d σ H =>
  ∃ b, PySem.W.exmOne K cls c = some b ∧ (b = true → ∀ a, H a = none → ts a cls d { nx := fun σ' H' => H' a = none → D.nx (σ'.set i none) (upd H' a (ExK cls d a)), rt := D.rt, bk := fun σ' H' => D.bk (σ'.set i none) H', ct := fun σ' H' => D.ct (σ'.set i none) H' } (σ.set i (some (.ref a))) H) ∧
    (b = false → Wout cls d σ H)
end Fld
namespace Fld
open PySem PySem.Spec PyProof.Rows L2
section
variable {X : Cx} {x n : Str} {c : Value} {i : Nat} {body suite : List Stmt} {b0 : Stmt} {np pos pos' : Pos} {tb : WX → TS} {ts : Addr → Value → Option Addr → TS} {Wout : WX}
theorem keep_catch {pins : List (Addr × Obj)} {s' : Shared} {D : Ends} {u : Value} (okX : X.Ok) (hst : X.stack = X.env :: X.outer) (hfm : X.env.frame = some X.env.locals) (nod : X.N.Nodup) (hix : X.N[i]? = some n) (lcl : X.env.kindOf n = some .local) (nam : Names X x c) (hex : X.ex = []) (tko : Takes X Wout)
    (su : ∀ (a : Addr) (oe : Obj) (cls : Value) (d : Option Addr) (pn : List (Addr × Obj)), Zc cls d oe → (∃ vs, oe.data = .fields vs) → PSs (X.suite a ((a, oe) :: pn)) (b0 :: suite) (ts a cls d))
    {xe : Value → Shared → Prop} (xx : XE (X.tr (X.pn ++ pins) xe) (wKeep X.K c i ts Wout D) u s') :
    wpAny (model X.prog X.w) X.A (noteFrame u X.env) (fun _ s2 => wpAny (model X.prog X.w) X.A (setFlight u none) (fun _ s3 =>
      wpAny (model X.prog X.w) X.A (handleBy u X.env [.ExceptHandler (some (.Name x np)) (some n) (b0 :: suite) pos']) (SP X pins D) X.xe s3) X.xe s2) X.xe s' := by
  obtain ⟨a, B, sI, pin2, σ1, H1, cls, d, rfl, Jt, nbB, upS, skyT, noA, eOs, eAg, bb, exB, whenT, whenF⟩ := xx
  have JJ : Inv X pins σ1 H1 sI := Jt.ofTry okX
  have fr2 : X.A.frames = some (X.env :: X.outer) := by rw [okX.frames, hst]
  have vis2 : Loc X.env.scope n := Or.inl lcl
  have skyX : Sky B (X.env :: X.outer) a (Zc cls d) X.env.locals s'.heap := by rw [← hst]; exact skyT
  refine Sky.land Zc.steady fr2 hfm skyX fun hA flA upA => ?_
  have JA : Inv X pins σ1 H1 { s' with heap := hA } := JJ.landed nbB flA.1 (upS.trans upA) eOs eAg
  obtain ⟨oeA, vsA, atA, zcA, dtA⟩ := flA.there
  have offFr : a ∉ frs (X.env :: X.outer) := fun hm => by
    obtain ⟨_, o', e', hnf⟩ := flA.2.2.1.mem hm
    rw [atA] at e'
    cases e'
    exact hnf _ dtA
  have offL : a ≠ X.env.locals := fun z => offFr (List.mem_filterMap.mpr ⟨X.env, .head _, by rw [hfm, z]⟩)
  have offF : a ∉ X.fs := fun hm => by
    obtain ⟨e, he, q⟩ := List.mem_filterMap.mp hm
    exact offFr (List.mem_filterMap.mpr ⟨e, .tail _ he, q⟩)
  have newA : sI.heap.get? a = none := by
    cases q : sI.heap.get? a with
    | none => rfl
    | some o =>
      have := nbB a o q (by show a ∉ frs X.stack; rw [hst]; exact offFr)
      rw [flA.2.1] at this
      cases this
  have s0A : X.s_0.heap.get? a = none := by
    cases q : X.s_0.heap.get? a with
    | none => rfl
    | some o =>
      obtain ⟨o', e'⟩ := JJ.base.there a o q (by rw [hex]; exact fun z => nomatch z)
      rw [newA] at e'
      cases e'
  have apart : ∀ p ∈ X.pn ++ pins, p.1 ≠ a := fun p hp z => by
    have hq : p ∈ (X.pn ++ pins) ++ pin2 := List.mem_append.mpr (.inl hp)
    have := (Jt.pin p hq).1
    rw [z, newA] at this
    cases this
  have SA := JA.suite atA dtA noA offL offF
  refine wpAny_handleBy_cons (codeAny_handlers_test ?_) (fun q => by cases q)
  have LKa : PySem.W.Looks (model X.prog X.w) hA (typeOf (.ref a)) cls := fun A2 Q2 E2 s2 k2 q2 => wpAny_typeOf_ref (k2 _ _ atA) (by rw [zcA.1]; exact q2)
  have LKm := PySem.W.exm_one (M := model X.prog X.w) JA.kIn LKa exB
  have ask : ∀ {Q2 : Value → Shared → Prop} {E2 : Value → Shared → Prop}, Q2 c { s' with heap := hA } → wpAny (model X.prog X.w) (X.A.mark (some (.ref a))) (eval (.Name x np) X.env) Q2 E2 { s' with heap := hA } := fun {Q2 E2} q2 => by
    rcases nam with ⟨g1, g2, g3 | ⟨g3, g4, g5⟩⟩
    · exact ld_glob (X := X.suite a ((a, oeA) :: (X.pn ++ pins))) SA g1 g3 q2 g2
    · exact ld_blt (X := X.suite a ((a, oeA) :: (X.pn ++ pins))) SA g1 g3 g4 q2 g5 g2
  refine ask (LKm.here ?_)
  cases bb with
  | true =>
    refine codeAny_handlers_suite_as (HandSPX.lands_againZ flA fun hB flB upB => ?_)
    have JB : Inv X pins σ1 H1 { s' with heap := hB } := JJ.landed nbB flB.1 ((upS.trans upA).trans upB) eOs eAg
    obtain ⟨oeB, vsB, atB, zcB, dtB⟩ := flB.there
    have SB := JB.suite atB dtB noA offL offF
    refine store_ok (X := X.suite a ((a, oeB) :: (X.pn ++ pins))) (v := .ref a) SB nod hix vis2 rfl (fun sC SC => ?_) (.inr lcl)
    refine wpAny_mono ((su a oeB cls d (X.pn ++ pins) zcB ⟨_, dtB⟩).run [] sC _ H1 _ SC (whenT rfl a noA)) (fun f sD hD => ?_) (fun _ _ z => z.elim)
    have shut : ∀ {σ6 : L2.St} {H6 : Hp} {Q : Shared → Prop}, Inv (X.suite a ((a, oeB) :: (X.pn ++ pins))) [] σ6 H6 sD → (∀ s7, Inv X pins (σ6.set i none) H6 s7 → Q s7) →
        wpAny (model X.prog X.w) X.A (do bindName X.env n .none; unbindBehindTheSuite X.env n pos') (fun _ s7 => Q s7) X.xe sD := fun {σ6 H6 Q} S6 hq => gone_ok (S6.unsuite okX) nod hix lcl hq
    have shutK : ∀ {σ6 : L2.St} {H6 : Hp} {Q : Shared → Prop}, Inv (X.suite a ((a, oeB) :: (X.pn ++ pins))) [] σ6 H6 sD → (∀ s7, Inv X pins (σ6.set i none) (upd H6 a (ExK cls d a)) s7 → Q s7) →
        wpAny (model X.prog X.w) X.A (do bindName X.env n .none; unbindBehindTheSuite X.env n pos') (fun _ s7 => Q s7) X.xe sD := fun {σ6 H6 Q} S6 hq => by
      obtain ⟨p1, p2, p3, p4, p5⟩ := S6.pin (a, oeB) (.head _)
      exact gone_ok (adopt (S6.unsuite okX) p1 zcB ⟨_, dtB⟩ p2 s0A p3 apart) nod hix lcl hq
    cases f with
    | next =>
      obtain ⟨σ6, H6, S6, q6⟩ := hD
      exact shutK S6 fun s7 J7 => ⟨_, _, J7, q6 (S6.pin (a, oeB) (.head _)).2.1⟩
    | brk =>
      obtain ⟨σ6, H6, S6, q6⟩ := hD
      exact shut S6 fun s7 J7 => ⟨_, _, J7, q6⟩
    | cont =>
      obtain ⟨σ6, H6, S6, q6⟩ := hD
      exact shut S6 fun s7 J7 => ⟨_, _, J7, q6⟩
    | ret u =>
      obtain ⟨v6, σ6, H6, S6, r6, q6⟩ := hD
      exact shut S6 fun s7 J7 => ⟨_, _, _, J7, r6, q6⟩
  | false =>
    show wpAny _ X.A (handleBy (.ref a) X.env []) _ _ _
    refine wpAny_handleBy_nil ?_
    obtain ⟨kk1, kk2, kk3, oe, vs, T, oT, tt, he, hz, hd, h1, hr⟩ := id flA
    unfold PySem.passOn
    refine wpAny_bind (wpAny_field he hd h1 ?_)
    rw [if_neg (show ¬ ((Value.ref T == Value.none) = true) by simp)]
    have goOn : wpAny (model X.prog X.w) X.A (setFlight (.ref a) X.env.frame) (fun _ s4 => wpAny (model X.prog X.w) X.A (throw (.ref a) : Sem Flow) (SP X pins D) X.xe s4) X.xe { s' with heap := hA } := by
      rw [hfm]
      refine HandSPX.setFlight_upZ flA fun hB fB upB => wpAny_throw (tko _ _ ?_)
      exact ⟨a, B, sI, pins, σ1, H1, cls, d, rfl, JJ, nbB, (upS.trans upA).trans upB, .inr (.inr (by rw [hst]; exact fB)), noA, eOs, eAg, whenF rfl⟩
    first
      | exact wpAny_bind (wpAny_pure (wpAny_bind goOn))
      | exact wpAny_bind goOn
theorem ps_try_keep (hst : X.stack = X.env :: X.outer) (hfm : X.env.frame = some X.env.locals) (nod : X.N.Nodup) (hix : X.N[i]? = some n) (lcl : X.env.kindOf n = some .local) (nam : Names X x c) (hex : X.ex = []) (tko : Takes X Wout)
    (bd : ∀ (W : WX) (pn : List (Addr × Obj)) (xe : Value → Shared → Prop), Takes (X.tr pn xe) W → PassesOwn (model X.prog X.w) X.A X.env xe → PSs (X.tr pn xe) body (tb W))
    (su : ∀ (a : Addr) (oe : Obj) (cls : Value) (d : Option Addr) (pn : List (Addr × Obj)), Zc cls d oe → (∃ vs, oe.data = .fields vs) → PSs (X.suite a ((a, oe) :: pn)) (b0 :: suite) (ts a cls d)) :
    PS X (.Try body [.ExceptHandler (some (.Name x np)) (some n) (b0 :: suite) pos'] [] [] pos) (fun D σ H => tb (wKeep X.K c i ts Wout D) D σ H) := by
  refine ⟨fun pins s σ H D I h => wpAny_Try_except ?_⟩
  have okX := I.ok
  have whole := (bd (wKeep X.K c i ts Wout D) (X.pn ++ pins) (fun e s1 => wpAny (model X.prog X.w) X.A (noteFrame e X.env) (fun _ s2 => wpAny (model X.prog X.w) X.A (setFlight e none) (fun _ s3 =>
    wpAny (model X.prog X.w) X.A (handleBy e X.env [.ExceptHandler (some (.Name x np)) (some n) (b0 :: suite) pos']) (SP X pins D) X.xe s3) X.xe s2) X.xe s1) (fun u s' xx => keep_catch okX hst hfm nod hix lcl nam hex tko su xx) PassesOwn.looking).run [] s σ H D (I.toTry _) h
  refine wpAny_mono whole (fun f s1 hsp => ?_) (fun e s1 he => he)
  cases f with
  | next =>
    obtain ⟨σ', H', J', q⟩ := hsp
    exact wpAny_execs_nil ⟨σ', H', J'.ofTry okX, q⟩
  | brk =>
    obtain ⟨σ', H', J', q⟩ := hsp
    exact ⟨σ', H', J'.ofTry okX, q⟩
  | cont =>
    obtain ⟨σ', H', J', q⟩ := hsp
    exact ⟨σ', H', J'.ofTry okX, q⟩
  | ret u =>
    obtain ⟨v, σ', H', J', r, q⟩ := hsp
    exact ⟨v, σ', H', J'.ofTry okX, r, q⟩
end
end Fld
namespace Fld
open PySem PySem.Spec PyProof.Rows L2
/-- isinstance(x, C), C of one's own: of a plain caught error; of what has a built-in type -/
def rIsX (K : PySem.W.Frag) : List V → Hp → VK → Prop := fun xs H Q => ∃ (a D : Addr) (c : V) (cv : Value) (b : Bool), xs = [.ref a, c] ∧ H a = some (ExK (.ref D) none a) ∧ ExcC K D ∧ ClsV c cv ∧ PySem.W.kitOne K (.ref D) cv = some b ∧ Q (.bl b) H
theorem call_isX {X : Cx} : CallR X (.builtin "isinstance") (rIsX X.K) := by
  intro pins s σ H xs us Q I r h
  obtain ⟨a, D, c, cv, b, rfl, ha, C, hcv, e, q⟩ := h
  obtain ⟨u1, u2, rfl, r1, r2⟩ := vals2 r
  cases (show u1 = Value.ref a from r1)
  have ec := hcv.eq r2
  subst ec
  obtain ⟨⟨oe, vs, hget, hz, hv⟩, _⟩ := I.hok a _ ha
  have J : PySem.W.InstAt s.heap a oe D none := by
    obtain ⟨oc, od, oda, osl⟩ := oe
    obtain ⟨h1, h2⟩ := hz
    dsimp only at h1 h2 hv
    subst h1 h2 hv
    exact ⟨hget, rfl, rfl, True.intro⟩
  exact PySem.W.kia_one (PySem.W.handS_kitx_exc C.hg C.hk C.hs C.hd C.ha C.hn C.ht C.hm) I.kIn J e (fun z => nomatch z) fun tk => ⟨.bl b, H, I.kept (t' := tk) fun _ _ z => z, rfl, q⟩
def rIsU (K : PySem.W.Frag) : List V → Hp → VK → Prop := fun xs H Q => rIsi K xs H Q ∨ rIsX K xs H Q
theorem call_isU {X : Cx} : CallR X (.builtin "isinstance") (rIsU X.K) := by
  intro pins s σ H xs us Q I r h
  rcases h with h | h
  · exact call_isi pins s σ H xs us Q I r h
  · exact call_isX pins s σ H xs us Q I r h
/-- an own class in isinstance -/
theorem kit_own {K : PySem.W.Frag} {t : Value} {C : Addr} {b : Bool} (hd : PySem.W.hasDictIn K C = true) (ht : PySem.W.typeIn K (.ref C) = some (.type "type")) (hs : PySem.W.subIn K t (.ref C) = some b) (hb : b = false → (t == .ref C) = false) : PySem.W.kitOne K t (.ref C) = some b := by
  obtain ⟨cd, hc, _⟩ := PySem.W.any_some hd
  have e2 : ((PySem.W.clsIn K C).isSome && PySem.W.typeIn K (.ref C) == some (.type "type")) = true := by rw [hc, ht]; rfl
  have e3 : PySem.W.kitCls K t (.ref C) = some b := by
    show (if ((PySem.W.clsIn K C).isSome && PySem.W.typeIn K (.ref C) == some (.type "type")) = true then PySem.W.subIn K t (.ref C) else none) = some b
    rw [if_pos e2]; exact hs
  unfold PySem.W.kitOne
  cases c : (t == Value.ref C) with
  | true =>
    cases b with
    | true => rw [if_pos rfl]
    | false => rw [hb rfl] at c; cases c
  | false => rw [if_neg (by decide)]; exact e3
/-- what isinstance of an error of one's own asks of its class -/
structure IsC (K : PySem.W.Frag) (C : Addr) : Prop where
  x : ExcC K C
  t : PySem.W.typeIn K (.ref C) = some (.type "type")
  n : PySem.W.subIn K (.type "NoneType") (.ref C) = some false
theorem IsC.none {K : PySem.W.Frag} {C : Addr} (h : IsC K C) : PySem.W.kitOne K (.type "NoneType") (.ref C) = some false := kit_own h.x.hd h.t h.n fun _ => rfl
theorem IsC.self {K : PySem.W.Frag} {C : Addr} (h : IsC K C) (s : PySem.W.subIn K (.ref C) (.ref C) = some true) : PySem.W.kitOne K (.ref C) (.ref C) = some true := kit_own h.x.hd h.t s fun z => nomatch z
end Fld
namespace Fld
open PySem PySem.Spec PyProof.Rows L2
theorem ixK {r : PySem.W.Frag → R2} {K : PySem.W.Frag} {X : Cx} (h : IxR X (r X.K)) (e : X.K = K := by rfl) : IxR X (r K) := e ▸ h
end Fld
/-! == of any value with a text, in among texts, a tuple with (), a tuple turned about -/
namespace Fld
open PySem PySem.Spec PyProof.Rows L2
section
variable {A : Around} {s : Shared} {l : Addr} {o : Obj} {es : Array DictEntry} {n : Nat}
end
end Fld
namespace Fld
open PySem PySem.Spec PyProof.Rows L2
open PySem.MeetsSeq
section
variable {A : Around} {s : Shared} {l : Addr} {o : Obj}
end
section
variable {X : Cx} {pins : List (Addr × Obj)} {σ : L2.St} {H : Hp} {s : Shared}
end
end Fld
/-! t[::-1] -/
namespace Fld
open PySem PySem.Spec PyProof.Rows L2
section
variable {prog : Program} {w : World} {A : Around} {E : Value → Shared → Prop} {s : Shared}
end
end Fld
namespace Fld
open PySem PySem.Spec PyProof.Rows L2
section
variable {prog : Program} {w : World} {A : Around} {E : Value → Shared → Prop} {s : Shared}
end
end Fld
namespace Fld
open PySem PySem.Spec PyProof.Rows L2
def sp_law_draw_ins : Sp := fun vs H Q _ => ∃ (p c : Addr) (n : Nat), vs = [.ref p] ∧ Pen H p c n ∧ n ≤ 700000 ∧ ∀ (a : Addr) (i : Ins) H', H' a = some (.tup i.vs) → i.Ok → Drew p c H H' (n + 200) → Q (.ref a) H'
def sp_law_draw_ans : Sp := fun vs H Q _ => ∃ (p c : Addr) (n : Nat), vs = [.ref p] ∧ Pen H p c n ∧ n ≤ 700000 ∧ ∀ (a : Addr) (i : Ans) H', H' a = some (.tup i.vs) → i.Ok → Drew p c H H' (n + 200) → Q (.ref a) H'
end Fld
/-! instructions and answers as data -/
namespace Fld
open PySem PySem.Spec PyProof.Rows L2
def Ins.dat : Ins → PyData
  | .again n => .tuple [.str "again", .int n]
  | .limit n => .tuple [.str "limit", .int n]
  | .fixed n x => .tuple [.str "fixed", .int n, .str x]
  | .entry n x => .tuple [.str "entry", .int n, .str x]
  | .new y x => .tuple [.str "new", .str y, .str x]
def Ans.dat : Ans → PyData
  | .done n => .tuple [.str "done", .int n]
  | .cancelled n => .tuple [.str "cancelled", .int n]
  | .received n => .tuple [.str "received", .int n]
theorem dp_ins {K : PySem.W.Frag} {H : Hp} {a : Addr} {i : Ins} (h : SqT K H a i.vs) : Dp K H (.ref a) i.dat := by
  cases i with
  | new y x => exact .tup h (.cons (.str _) (.cons (.str _) (.cons (.str _) .nil)))
  | fixed n x => exact .tup h (.cons (.str _) (.cons (.int _) (.cons (.str _) .nil)))
  | entry n x => exact .tup h (.cons (.str _) (.cons (.int _) (.cons (.str _) .nil)))
  | _ => exact .tup h (.cons (.str _) (.cons (.int _) .nil))
theorem dp_ans {K : PySem.W.Frag} {H : Hp} {a : Addr} {i : Ans} (h : SqT K H a i.vs) : Dp K H (.ref a) i.dat := by
  cases i <;> exact .tup h (.cons (.str _) (.cons (.int _) .nil))
theorem dle_str (n : Nat) (x : Str) : DLe n (.str x) := by cases n <;> exact True.intro
theorem dle_int (n : Nat) (i : Int) : DLe n (.int i) := by cases n <;> exact True.intro
theorem dle_2 {n : Nat} {a b : PyData} (ha : DLe n a) (hb : DLe n b) : DLe (n + 1) (.tuple [a, b]) := ⟨by show 2 ≤ 100000; decide, fun d hd => by
  rcases List.mem_cons.mp hd with h | h
  · rw [h]; exact ha
  · rw [List.mem_singleton.mp h]; exact hb⟩
theorem dle_3 {n : Nat} {a b c : PyData} (ha : DLe n a) (hb : DLe n b) (hc : DLe n c) : DLe (n + 1) (.tuple [a, b, c]) := ⟨by show 3 ≤ 100000; decide, fun d hd => by
  rcases List.mem_cons.mp hd with h | h
  · rw [h]; exact ha
  rcases List.mem_cons.mp h with h | h
  · rw [h]; exact hb
  · rw [List.mem_singleton.mp h]; exact hc⟩
theorem dleL_2 {n : Nat} {a b : PyData} (ha : DLe n a) (hb : DLe n b) : DLe (n + 1) (.list [a, b]) := ⟨by show 2 ≤ 100000; decide, fun d hd => by
  rcases List.mem_cons.mp hd with h | h
  · rw [h]; exact ha
  · rw [List.mem_singleton.mp h]; exact hb⟩
theorem dle_ins (n : Nat) (i : Ins) : DLe (n + 1) i.dat := by
  cases i with
  | again k => exact dle_2 (dle_str _ _) (dle_int _ _)
  | limit k => exact dle_2 (dle_str _ _) (dle_int _ _)
  | fixed k x => exact dle_3 (dle_str _ _) (dle_int _ _) (dle_str _ _)
  | entry k x => exact dle_3 (dle_str _ _) (dle_int _ _) (dle_str _ _)
  | new y x => exact dle_3 (dle_str _ _) (dle_str _ _) (dle_str _ _)
theorem dle_ans (n : Nat) (i : Ans) : DLe (n + 1) i.dat := by
  cases i <;> exact dle_2 (dle_str _ _) (dle_int _ _)
/-! ### all octets are octets -/
theorem restOct_oct (r : Nat) : ∀ o ∈ restOct r, 0 ≤ o ∧ o < 256 := by
  induction r using Nat.strongRecOn with
  | _ r ih =>
    intro o ho
    by_cases h : r < 128
    · rw [restOct_lt h] at ho
      have := List.mem_singleton.mp ho
      omega
    · rw [restOct_ge h] at ho
      rcases List.mem_cons.mp ho with z | z
      · omega
      · exact ih (r / 128) (by omega) o z
theorem numOct_oct {n b m : Nat} (h : m + (2 ^ b - 1) ≤ 255) : ∀ o ∈ numOct n b m, 0 ≤ o ∧ o < 256 := by
  intro o ho
  unfold numOct at ho
  by_cases h1 : n < 2 ^ b - 1
  · rw [if_pos h1] at ho
    have := List.mem_singleton.mp ho
    omega
  · rw [if_neg h1] at ho
    rcases List.mem_cons.mp ho with z | z
    · omega
    · exact restOct_oct _ o z
theorem strOct_oct {x : Str} {b m : Nat} (h : m + (2 ^ b - 1) ≤ 255) (hx : x.cps.toList.all isChar = true) : ∀ o ∈ strOct x b m, 0 ≤ o ∧ o < 256 := by
  intro o ho
  rcases List.mem_append.mp ho with z | z
  · exact numOct_oct h o z
  · obtain ⟨c, hc, rfl⟩ := List.mem_map.mp z
    have h1 : (charCodes.all fun c => decide (c < 256)) = true := by decide
    have := of_decide_eq_true (List.all_eq_true.mp h1 c (List.contains_iff_mem.mp (List.all_eq_true.mp hx c hc)))
    omega
theorem app_oct {a b : List Int} (h1 : ∀ o ∈ a, 0 ≤ o ∧ o < 256) (h2 : ∀ o ∈ b, 0 ≤ o ∧ o < 256) : ∀ o ∈ a ++ b, 0 ≤ o ∧ o < 256 := fun o ho => (List.mem_append.mp ho).elim (h1 o) (h2 o)
theorem ins_oct {i : Ins} (ok : i.Ok) : ∀ o ∈ i.oct, 0 ≤ o ∧ o < 256 := by
  cases i with
  | again n => exact numOct_oct (by decide)
  | limit n => exact numOct_oct (by decide)
  | fixed n x => exact app_oct (numOct_oct (by decide)) (strOct_oct (by decide) (txt_all ok.2))
  | entry n x => exact app_oct (numOct_oct (by decide)) (strOct_oct (by decide) (txt_all ok.2))
  | new y x => exact app_oct (strOct_oct (by decide) (txt_all ok.1)) (strOct_oct (by decide) (txt_all ok.2))
theorem ans_oct {i : Ans} (ok : i.Ok) : ∀ o ∈ i.oct, 0 ≤ o ∧ o < 256 := by
  cases i with
  | _ => exact numOct_oct (by decide)
theorem octV_of {os : List Int} (h : ∀ o ∈ os, 0 ≤ o ∧ o < 256) : octV (os.map V.int) = true := by
  refine List.all_eq_true.mpr fun v hv => ?_
  obtain ⟨o, ho, rfl⟩ := List.mem_map.mp hv
  have := h o ho
  exact btw_t (by omega) (by omega)
theorem kinds_ints {K : PySem.W.Frag} {H : Hp} (os : List Int) : ∀ x ∈ os.map V.int, ∃ t, Kind K H x t := fun x hx => by
  obtain ⟨o, _, rfl⟩ := List.mem_map.mp hx
  exact ⟨"int", .int o⟩
end Fld
/-! Lines and blocks: their values, their octets, what is read of octets. -/
namespace Fld
open PySem PySem.Spec PyProof.Rows L2
inductive Ln where
  | fix1 (n : Nat) | fix2 (n : Nat) (x : Str) | ent1 (n : Nat) | ent2 (n : Nat) (x : Str) | out (y x : Str)
def Ln.vs : Ln → List V
  | .fix1 n => [.str "fixed", .int n]
  | .fix2 n x => [.str "fixed", .int n, .str x]
  | .ent1 n => [.str "entry", .int n]
  | .ent2 n x => [.str "entry", .int n, .str x]
  | .out y x => [.str "out", .str y, .str x]
def Ln.Ok (req : Nat) : Ln → Prop
  | .fix1 n => n ≤ 9999
  | .fix2 n x => n ≤ 9999 ∧ txt (.str x) 0 40 = true
  | .ent1 n => n < req
  | .ent2 n x => n < req ∧ txt (.str x) 0 40 = true
  | .out y x => txt (.str y) 1 20 = true ∧ txt (.str x) 0 40 = true
def wholeOct (base n : Nat) : List Int := if n < base then numOct (base - n - 1) 3 128 else numOct (n - base) 2 16
def namedOct (base n : Nat) : List Int := if n < base then numOct (base - n - 1) 3 64 else numOct (n - base) 2 0
def Ln.oct (base : Nat) : Ln → List Int
  | .fix1 n => numOct n 6 192
  | .fix2 n x => numOct n 4 96 ++ strOct x 7 0
  | .ent1 n => wholeOct base n
  | .ent2 n x => namedOct base n ++ strOct x 7 0
  | .out y x => strOct y 4 32 ++ strOct x 7 0
def LnV (K : PySem.W.Frag) (H : Hp) (v : V) (l : Ln) : Prop := ∃ a, v = .ref a ∧ SqT K H a l.vs
structure Blk where
  req : Nat
  base : Nat
  ls : List Ln
structure Blk.Ok (b : Blk) : Prop where
  req_ : b.req ≤ 9999
  base_ : b.base ≤ b.req
  len_ : b.ls.length ≤ 16
  lns_ : ∀ l : Ln, l ∈ b.ls → l.Ok b.req
def lnsOct (base : Nat) (ls : List Ln) : List Int := (ls.map (Ln.oct base)).flatten
def Blk.oct (b : Blk) : List Int := (numOct b.req 8 0 ++ numOct (b.req - b.base) 8 0) ++ lnsOct b.base b.ls
inductive LnsV (K : PySem.W.Frag) (H : Hp) : List V → List Ln → Prop
  | nil : LnsV K H [] []
  | cons {x : V} {xs : List V} {l : Ln} {ls : List Ln} : LnV K H x l → LnsV K H xs ls → LnsV K H (x :: xs) (l :: ls)
def BlkV (K : PySem.W.Frag) (H : Hp) (v : V) (b : Blk) : Prop := ∃ (a t : Addr) (xs : List V), v = .ref a ∧ SqT K H a [.int b.req, .int b.base, .ref t] ∧ SqT K H t xs ∧ LnsV K H xs b.ls
theorem LnV.keep {K : PySem.W.Frag} {H H' : Hp} {v : V} {l : Ln} (s : Same H H') (h : LnV K H v l) : LnV K H' v l := let ⟨a, e, h⟩ := h; ⟨a, e, s.tup h⟩
theorem LnsV.keep {K : PySem.W.Frag} {H H' : Hp} (s : Same H H') : ∀ {xs : List V} {ls : List Ln}, LnsV K H xs ls → LnsV K H' xs ls
  | _, _, .nil => .nil
  | _, _, .cons h t => .cons (h.keep s) (t.keep s)
theorem BlkV.keep {K : PySem.W.Frag} {H H' : Hp} {v : V} {b : Blk} (s : Same H H') (h : BlkV K H v b) : BlkV K H' v b := let ⟨a, t, xs, e, h1, h2, h3⟩ := h; ⟨a, t, xs, e, s.tup h1, s.tup h2, h3.keep s⟩
theorem LnsV.len {K : PySem.W.Frag} {H : Hp} : ∀ {xs : List V} {ls : List Ln}, LnsV K H xs ls → xs.length = ls.length
  | _, _, .nil => rfl
  | _, _, .cons _ t => by rw [List.length_cons, List.length_cons, t.len]
theorem LnsV.at_ {K : PySem.W.Frag} {H : Hp} : ∀ {xs : List V} {ls : List Ln} {i : Nat} {x : V}, LnsV K H xs ls → xs[i]? = some x → ∃ l, ls[i]? = some l ∧ LnV K H x l
  | _, _, _, _, .nil, e => by simp at e
  | _, _, 0, _, .cons h _, e => by simp at e; subst e; exact ⟨_, rfl, h⟩
  | _, _, i + 1, x, .cons _ t, e => by
    obtain ⟨l, h1, h2⟩ := t.at_ (i := i) (x := x) (by simpa using e)
    exact ⟨l, by simpa using h1, h2⟩
end Fld
/-! reading lines and blocks: the mirror -/
namespace Fld
open PySem PySem.Spec PyProof.Rows L2
end Fld
/-! what is written of a block is read again -/
namespace Fld
open PySem PySem.Spec PyProof.Rows L2
theorem p4 : ((2 ^ 4 - 1 : Nat) : Int) = 15 := rfl
theorem p3 : ((2 ^ 3 - 1 : Nat) : Int) = 7 := rfl
theorem p2 : ((2 ^ 2 - 1 : Nat) : Int) = 3 := rfl
end Fld
/-! lines and blocks as data; how the laws draw them -/
namespace Fld
open PySem PySem.Spec PyProof.Rows L2
def Ln.dat : Ln → PyData
  | .fix1 n => .tuple [.str "fixed", .int n]
  | .fix2 n x => .tuple [.str "fixed", .int n, .str x]
  | .ent1 n => .tuple [.str "entry", .int n]
  | .ent2 n x => .tuple [.str "entry", .int n, .str x]
  | .out y x => .tuple [.str "out", .str y, .str x]
def Blk.dat (b : Blk) : PyData := .tuple [.int b.req, .int b.base, .tuple (b.ls.map Ln.dat)]
theorem restOct_len2 {r : Nat} (h : r < 16384) : (restOct r).length ≤ 2 := by
  by_cases h1 : r < 128
  · rw [restOct_lt h1]; show 1 ≤ 2; decide
  · rw [restOct_ge h1, restOct_lt (show r / 128 < 128 by omega)]; show 2 ≤ 2; decide
theorem numOct_len3 {n b m : Nat} (h : n ≤ 9999) : (numOct n b m).length ≤ 3 := by
  unfold numOct
  by_cases h1 : n < 2 ^ b - 1
  · rw [if_pos h1]; show 1 ≤ 3; decide
  · rw [if_neg h1, List.length_cons]
    have := restOct_len2 (r := n - (2 ^ b - 1)) (by omega)
    omega
theorem strOct_len2 {x : Str} {b m : Nat} (h : x.length ≤ 40) : (strOct x b m).length ≤ 43 := by
  unfold strOct
  have := numOct_len3 (n := x.length) (b := b) (m := m) (by omega)
  rw [List.length_append, List.length_map, ← str_len]
  omega
end Fld
/-! what a line, a block is, over data of any kind -/
namespace Fld
open PySem PySem.Spec PyProof.Rows L2
end Fld
namespace Fld
open PySem PySem.Spec PyProof.Rows L2
end Fld
namespace Fld
open PySem PySem.Spec PyProof.Rows L2
end Fld
/-! tuples by their data: slices, +, *, turned about -/
namespace Fld
open PySem PySem.Spec PyProof.Rows L2
section
variable {K : PySem.W.Frag} {S : List Addr} {H : Hp} {v u : V} {ds es : List PyData} {Q : VK}
end
end Fld
/-! fields, lists of fields, settings, entries: as values and by plain data; what stays while only tuples must stand -/
namespace Fld
open PySem PySem.Spec PyProof.Rows L2
def IsTupO (u : HO) : Prop := (∃ xs, u = .tup xs) ∨ ∃ o xs, u = .frz o (.tup xs)
/-- all tuples stand -/
def TS (H H' : Hp) : Prop := ∀ a u, IsTupO u → H a = some u → H' a = some u
theorem TS.refl (H : Hp) : TS H H := fun _ _ _ e => e
theorem TS.trans {H H1 H2 : Hp} (a : TS H H1) (b : TS H1 H2) : TS H H2 := fun c u t e => b c u t (a c u t e)
theorem TS.of {H H1 : Hp} (s : Same H H1) : TS H H1 := fun c u _ e => s c u e
theorem nt_lst {xs : List V} : ¬ IsTupO (.lst xs) := by
  rintro (⟨_, e⟩ | ⟨_, _, e⟩) <;> cases e
theorem TS.at {H : Hp} {q : Addr} {o o0 : HO} (h : H q = some o0) (n : ¬ IsTupO o0) : TS H (upd H q o) := fun a u t e => by
  by_cases z : a = q
  · subst z; rw [h] at e; cases e; exact absurd t n
  · rw [upd_ne z]; exact e
theorem TS.new {H : Hp} {q : Addr} {o : HO} (h : H q = none) : TS H (upd H q o) := .of (Same.new h)
theorem TS.but {p : Addr} {H H' : Hp} {o0 : HO} (b : But p H H') (h : H p = some o0) (n : ¬ IsTupO o0) : TS H H' := fun a u t e => by
  by_cases z : a = p
  · subst z; rw [h] at e; cases e; exact absurd t n
  · exact b a u z e
theorem TS.drew {p c : Addr} {H H' : Hp} {n m : Nat} (hp : Pen H p c n) (d : Drew p c H H' m) : TS H H' := by
  obtain ⟨⟨xs, e⟩, _⟩ := hp.some
  exact TS.but d.but e nt_lst
theorem TS.tup {K : PySem.W.Frag} {H H' : Hp} {a : Addr} {xs : List V} (t : TS H H') (h : SqT K H a xs) : SqT K H' a xs := by
  rcases h with (h | ⟨o, h⟩) | h
  · exact .inl (.inl (t _ _ (.inl ⟨_, rfl⟩) h))
  · exact .inl (.inr ⟨o, t _ _ (.inr ⟨_, _, rfl⟩) h⟩)
  · exact .inr h
/-! ### fields -/
abbrev Fd := Str × Str
structure FdOk (f : Fd) : Prop where
  n : txt (.str f.1) 1 20 = true
  v : txt (.str f.2) 0 40 = true
def fdat (f : Fd) : PyData := .tuple [.str f.1, .str f.2]
def FdV (K : PySem.W.Frag) (H : Hp) (v : V) (f : Fd) : Prop := ∃ a, v = .ref a ∧ SqT K H a [.str f.1, .str f.2]
abbrev FdsV (K : PySem.W.Frag) (H : Hp) (xs : List V) (F : List Fd) : Prop := Paired (FdV K H) xs F
theorem FdV.ts {K : PySem.W.Frag} {H H' : Hp} {v : V} {f : Fd} (h : FdV K H v f) (t : TS H H') : FdV K H' v f := let ⟨a, e, s⟩ := h; ⟨a, e, t.tup s⟩
theorem pmap {α β : Type} {R S : α → β → Prop} (f : ∀ x y, R x y → S x y) : ∀ {xs : List α} {ys : List β}, Paired R xs ys → Paired S xs ys
  | _, _, .nil => .nil
  | _, _, .cons h t => .cons (f _ _ h) (pmap f t)
theorem FdsV.ts {K : PySem.W.Frag} {H H' : Hp} {xs : List V} {F : List Fd} (h : FdsV K H xs F) (t : TS H H') : FdsV K H' xs F := pmap (fun _ _ z => z.ts t) h
theorem FdV.dp {K : PySem.W.Frag} {H : Hp} {v : V} {f : Fd} (h : FdV K H v f) : Dp K H v (fdat f) := by
  obtain ⟨a, rfl, s⟩ := h
  exact .tup s (.cons (.str _) (.cons (.str _) .nil))
theorem FdsV.dp {K : PySem.W.Frag} {H : Hp} : ∀ {xs : List V} {F : List Fd}, FdsV K H xs F → DpAll K H xs (F.map fdat)
  | _, _, .nil => .nil
  | _, _, .cons h t => .cons h.dp (FdsV.dp t)
theorem p_app {α β : Type} {R : α → β → Prop} : ∀ {xs zs : List α} {ys us : List β}, Paired R xs ys → Paired R zs us → Paired R (xs ++ zs) (ys ++ us)
  | _, _, _, _, .nil, s => s
  | _, _, _, _, .cons r t, s => .cons r (p_app t s)
/-! ### settings -/
def SetV (K : PySem.W.Frag) (H : Hp) (v : V) (F : List Fd) (r w : Nat) : Prop := ∃ (a t : Addr) (xs : List V), v = .ref a ∧ SqT K H a [.ref t, .int (r : Nat), .int (w : Nat)] ∧ SqT K H t xs ∧ FdsV K H xs F
def sdat (F : List Fd) (r w : Nat) : PyData := .tuple [.tuple (F.map fdat), .int (r : Nat), .int (w : Nat)]
theorem SetV.ts {K : PySem.W.Frag} {H H' : Hp} {v : V} {F : List Fd} {r w : Nat} (h : SetV K H v F r w) (t : TS H H') : SetV K H' v F r w := let ⟨a, b, xs, e, s1, s2, s3⟩ := h; ⟨a, b, xs, e, t.tup s1, t.tup s2, s3.ts t⟩
theorem SetV.dp {K : PySem.W.Frag} {H : Hp} {v : V} {F : List Fd} {r w : Nat} (h : SetV K H v F r w) : Dp K H v (sdat F r w) := by
  obtain ⟨a, b, xs, rfl, s1, s2, s3⟩ := h
  exact .tup s1 (.cons (.tup s2 s3.dp) (.cons (.int _) (.cons (.int _) .nil)))
/-! ### entries -/
abbrev Ent := List (Nat × Fd)
def nkey (n : Nat) : Key := Sum.inl ((n : Nat) : Int)
def PrV (K : PySem.W.Frag) (H : Hp) (p : Key × V) (e : Nat × Fd) : Prop := p.1 = nkey e.1 ∧ FdV K H p.2 e.2
theorem PrV.ts {K : PySem.W.Frag} {H H' : Hp} {p : Key × V} {e : Nat × Fd} (h : PrV K H p e) (t : TS H H') : PrV K H' p e := ⟨h.1, h.2.ts t⟩
def EntV (K : PySem.W.Frag) (H : Hp) (D : Addr) (es : Ent) : Prop := ∃ kvs, H D = some (.dK kvs) ∧ Paired (PrV K H) kvs es
def lookE (es : Ent) (n : Nat) : Option Fd := (es.find? fun e => decide (e.1 = n)).map (·.2)
def putE (es : Ent) (n : Nat) (f : Fd) : Ent := if (es.any fun e => decide (e.1 = n)) = true then es.map (fun e => if e.1 = n then (e.1, f) else e) else es ++ [(n, f)]
def dropE (es : Ent) (n : Nat) : Ent := es.filter fun e => decide (e.1 ≠ n)
structure EsOk (m : Nat) (es : Ent) : Prop where
  len : es.length ≤ m
  key : ∀ e ∈ es, e.1 ≤ 40
  fd : ∀ e ∈ es, FdOk e.2
  nd : (es.map (·.1)).Nodup
theorem EntV.ts {K : PySem.W.Frag} {H H' : Hp} {D : Addr} {es : Ent} (h : EntV K H D es) (t : TS H H') (e : ∀ o, H D = some o → H' D = some o) : EntV K H' D es := let ⟨kvs, h1, h2⟩ := h; ⟨kvs, e _ h1, pmap (fun _ _ z => z.ts t) h2⟩
theorem EntV.same {K : PySem.W.Frag} {H H' : Hp} {D : Addr} {es : Ent} (h : EntV K H D es) (s : Same H H') : EntV K H' D es := h.ts (.of s) fun o e => s _ _ e
/-- a value or None -/
def OFd (K : PySem.W.Frag) (H : Hp) (v : V) : Option Fd → Prop
  | none => v = .non
  | some f => FdV K H v f
theorem OFd.ts {K : PySem.W.Frag} {H H' : Hp} {v : V} {o : Option Fd} (h : OFd K H v o) (t : TS H H') : OFd K H' v o := by
  cases o with
  | none => exact h
  | some f => exact FdV.ts h t
theorem len_putE (es : Ent) (n : Nat) (f : Fd) : (putE es n f).length ≤ es.length + 1 := by
  unfold putE
  split
  · rw [List.length_map]; omega
  · simp
theorem keys_map (es : Ent) (n : Nat) (f : Fd) : (es.map fun e => if e.1 = n then (e.1, f) else e).map (·.1) = es.map (·.1) := by
  rw [List.map_map]
  apply List.map_congr_left
  intro e _
  show (if e.1 = n then (e.1, f) else e).1 = e.1
  split <;> rfl
theorem EsOk.put {m n : Nat} {es : Ent} {f : Fd} (h : EsOk m es) (hn : n ≤ 40) (hf : FdOk f) : EsOk (m + 1) (putE es n f) := by
  refine ⟨by have := len_putE es n f; have := h.len; omega, ?_, ?_, ?_⟩
  · intro e he
    unfold putE at he
    split at he
    · obtain ⟨x, hx, rfl⟩ := List.mem_map.mp he
      have := h.key x hx
      split <;> exact this
    · rcases List.mem_append.mp he with z | z
      · exact h.key e z
      · rw [List.mem_singleton.mp z]; exact hn
  · intro e he
    unfold putE at he
    split at he
    · obtain ⟨x, hx, rfl⟩ := List.mem_map.mp he
      have := h.fd x hx
      split
      · exact hf
      · exact this
    · rcases List.mem_append.mp he with z | z
      · exact h.fd e z
      · rw [List.mem_singleton.mp z]; exact hf
  · unfold putE
    split
    · rw [keys_map]; exact h.nd
    · rename_i c
      rw [List.map_append, List.nodup_append]
      refine ⟨h.nd, by simp, ?_⟩
      rintro a ha b hb rfl
      have : a = n := by simpa using hb
      subst this
      obtain ⟨e, he, rfl⟩ := List.mem_map.mp ha
      exact c (List.any_eq_true.mpr ⟨e, he, decide_eq_true rfl⟩)
theorem EsOk.drop {m n : Nat} {es : Ent} (h : EsOk m es) : EsOk m (dropE es n) :=
  ⟨Nat.le_trans (List.length_filter_le _ _) h.len, fun e he => h.key e (List.mem_filter.mp he).1, fun e he => h.fd e (List.mem_filter.mp he).1, (List.Sublist.map _ List.filter_sublist).nodup h.nd⟩
theorem EsOk.mono {m m' : Nat} {es : Ent} (h : EsOk m es) (l : m ≤ m') : EsOk m' es := ⟨Nat.le_trans h.len l, h.key, h.fd, h.nd⟩
theorem look_some_iff {es : Ent} (nd : (es.map (·.1)).Nodup) {n : Nat} {f : Fd} : lookE es n = some f ↔ (n, f) ∈ es := by
  induction es with
  | nil => simp [lookE]
  | cons e es ih =>
    rw [List.map_cons, List.nodup_cons] at nd
    have ih := ih nd.2
    unfold lookE at ih ⊢
    rw [List.find?_cons]
    by_cases c : e.1 = n
    · rw [decide_eq_true c]
      constructor
      · intro h
        have h2 : e.2 = f := Option.some.inj h
        rw [← c, ← h2]; exact List.mem_cons_self ..
      · intro h
        rcases List.mem_cons.mp h with h | h
        · rw [← h]; rfl
        · exact absurd (List.mem_map.mpr ⟨_, h, rfl⟩) (by rw [c] at nd; exact nd.1)
    · rw [decide_eq_false c]
      refine ih.trans ⟨fun h => List.mem_cons_of_mem _ h, fun h => ?_⟩
      rcases List.mem_cons.mp h with h | h
      · exact absurd (by rw [← h]) c
      · exact h
/-! ### what a block says -/
def said1 (F : List Fd) (es : Ent) : Ln → Option Fd
  | .fix1 n => F[n]?
  | .fix2 n x => (F[n]?).map fun f => (f.1, x)
  | .ent1 n => lookE es n
  | .ent2 n x => (lookE es n).map fun f => (f.1, x)
  | .out y x => some (y, x)
def saidL (F : List Fd) (es : Ent) : List Ln → Option (List Fd)
  | [] => some []
  | l :: ls => match said1 F es l with
    | none => none
    | some f => (saidL F es ls).map (f :: ·)
theorem LnV.ts {K : PySem.W.Frag} {H H' : Hp} {v : V} {l : Ln} (h : LnV K H v l) (t : TS H H') : LnV K H' v l := let ⟨a, e, s⟩ := h; ⟨a, e, t.tup s⟩
theorem LnsV.ts {K : PySem.W.Frag} {H H' : Hp} (t : TS H H') : ∀ {xs : List V} {ls : List Ln}, LnsV K H xs ls → LnsV K H' xs ls
  | _, _, .nil => .nil
  | _, _, .cons h s => .cons (h.ts t) (LnsV.ts t s)
theorem BlkV.ts {K : PySem.W.Frag} {H H' : Hp} {v : V} {b : Blk} (h : BlkV K H v b) (t : TS H H') : BlkV K H' v b := let ⟨a, u, xs, e, s1, s2, s3⟩ := h; ⟨a, u, xs, e, t.tup s1, t.tup s2, LnsV.ts t s3⟩
end Fld
namespace Fld
open PySem PySem.Spec PyProof.Rows L2
/-- fixed fields and entries -/
structure TabV (K : PySem.W.Frag) (H : Hp) (t D : Addr) (F : List Fd) (es : Ent) : Prop where
  fx : ∃ xs, SqT K H t xs ∧ FdsV K H xs F
  en : EntV K H D es
theorem TabV.ts {K : PySem.W.Frag} {H H' : Hp} {t D : Addr} {F : List Fd} {es : Ent} (h : TabV K H t D F es) (s : TS H H') (e : ∀ o, H D = some o → H' D = some o) : TabV K H' t D F es :=
  ⟨let ⟨xs, a, b⟩ := h.fx; ⟨xs, s.tup a, b.ts s⟩, h.en.ts s e⟩
theorem TabV.same {K : PySem.W.Frag} {H H' : Hp} {t D : Addr} {F : List Fd} {es : Ent} (h : TabV K H t D F es) (s : Same H H') : TabV K H' t D F es := h.ts (.of s) fun o e => s _ _ e
theorem look_mem {es : Ent} {n : Nat} {f : Fd} (h : lookE es n = some f) : (n, f) ∈ es := by
  unfold lookE at h
  rw [Option.map_eq_some_iff] at h
  obtain ⟨e, h1, h2⟩ := h
  have h3 := List.mem_of_find?_eq_some h1
  have h4 : e.1 = n := by have := List.find?_some h1; simpa using this
  subst h4 h2; exact h3
end Fld
namespace Fld
open PySem PySem.Spec PyProof.Rows L2
def SomeFd (K : PySem.W.Frag) (H : Hp) (F : List Fd) (es : Ent) (v : V) (l : Ln) : Prop := ∃ f, said1 F es l = some f ∧ FdV K H v f
theorem SomeFd.ts {K : PySem.W.Frag} {H H' : Hp} {F : List Fd} {es : Ent} {v : V} {l : Ln} (h : SomeFd K H F es v l) (t : TS H H') : SomeFd K H' F es v l := let ⟨f, e, g⟩ := h; ⟨f, e, g.ts t⟩
end Fld
namespace Fld
open PySem PySem.Spec PyProof.Rows L2
/-- some lines to draw one of -/
structure SomeLn (K : PySem.W.Frag) (p c : Addr) (H5 H' : Hp) (L : Addr) (req N : Nat) : Prop where
  pen : Pen H' p c N
  but : But p H5 H'
  ex : ∃ xs, H' L = some (.lst xs) ∧ xs ≠ [] ∧ xs.length ≤ 2 ∧ ∀ x ∈ xs, ∃ l, LnV K H' x l ∧ l.Ok req
  ne : L ≠ p
theorem SomeLn.mono {K : PySem.W.Frag} {p c : Addr} {H5 H' : Hp} {L : Addr} {req N M : Nat} (h : SomeLn K p c H5 H' L req N) (l : N ≤ M) : SomeLn K p c H5 H' L req M := ⟨h.pen.mono l, h.but, h.ex, h.ne⟩
end Fld
/-! entries as data; what two dicts of the same entries say -/
namespace Fld
open PySem PySem.Spec PyProof.Rows L2
end Fld
namespace Fld
open PySem PySem.Spec PyProof.Rows L2
end Fld
namespace Fld
open PySem PySem.Spec PyProof.Rows L2
end Fld
/-! the table: its mirror, its object, what its calls promise -/
namespace Fld
open PySem PySem.Spec PyProof.Rows L2
def fsz (f : Fd) : Nat := f.1.length + f.2.length + 4
def sumE (es : Ent) : Nat := (es.map fun e => fsz e.2).sum
def keepE (b m : Nat) : Ent → Ent
  | [] => []
  | e :: es => if m + sumE (e :: es) ≤ b then e :: es else keepE b m es
def goneE (b m : Nat) : Ent → Ent
  | [] => []
  | e :: es => if m + sumE (e :: es) ≤ b then [] else e :: goneE b m es
theorem sumE_cons (e : Nat × Fd) (es : Ent) : sumE (e :: es) = fsz e.2 + sumE es := by unfold sumE; rw [List.map_cons, List.sum_cons]
theorem sumE_app (es fs : Ent) : sumE (es ++ fs) = sumE es + sumE fs := by
  induction es with
  | nil => rw [List.nil_append]; show _ = 0 + _; omega
  | cons e es ih => rw [List.cons_append, sumE_cons, sumE_cons, ih]; omega
theorem gone_keep (b m : Nat) : ∀ es : Ent, goneE b m es ++ keepE b m es = es
  | [] => rfl
  | e :: es => by
    unfold goneE keepE
    by_cases c : m + sumE (e :: es) ≤ b
    · rw [if_pos c, if_pos c]; rfl
    · rw [if_neg c, if_neg c, List.cons_append, gone_keep b m es]
theorem keep_sum {b m : Nat} (hm : m ≤ b) : ∀ es : Ent, m + sumE (keepE b m es) ≤ b
  | [] => by show m + 0 ≤ b; omega
  | e :: es => by
    unfold keepE
    split
    · assumption
    · exact keep_sum hm es
theorem keep_sub (b m : Nat) (es : Ent) : (keepE b m es).Sublist es := by
  have h := gone_keep b m es
  have := List.sublist_append_right (goneE b m es) (keepE b m es)
  rwa [h] at this
structure Tb where
  bound : Nat
  made : Nat
  es : Ent
structure TbOk (r : Nat) (t : Tb) : Prop where
  rm : r ≤ 120
  bd : t.bound ≤ r
  sum : sumE t.es ≤ t.bound
  asc : (t.es.map (·.1)).Pairwise (· < ·)
  lt : ∀ e ∈ t.es, e.1 < t.made
  mad : t.made ≤ 9999
  fd : ∀ e ∈ t.es, FdOk e.2
theorem fsz_ge {f : Fd} (h : FdOk f) : 5 ≤ fsz f ∧ fsz f ≤ 64 := by
  have h1 : (decide ((1 : Int) ≤ (f.1.length : Int)) && decide ((f.1.length : Int) ≤ 20) && f.1.cps.toList.all isChar) = true := h.n
  have h2 := txt_len h.v
  simp only [Bool.and_eq_true, decide_eq_true_eq] at h1
  unfold fsz
  omega
theorem sum_len : ∀ {es : Ent}, (∀ e ∈ es, FdOk e.2) → 5 * es.length ≤ sumE es
  | [], _ => Nat.le_refl _
  | e :: es, h => by
    have := sum_len (es := es) fun x hx => h x (List.mem_cons_of_mem _ hx)
    have := (fsz_ge (h e (List.mem_cons_self ..))).1
    rw [sumE_cons, List.length_cons]; omega
theorem TbOk.len {r : Nat} {t : Tb} (h : TbOk r t) : t.es.length ≤ 24 := by
  have := sum_len h.fd
  have := h.sum
  have := h.bd
  have := h.rm
  omega
theorem TbOk.nd {r : Nat} {t : Tb} (h : TbOk r t) : (t.es.map (·.1)).Nodup := List.Pairwise.imp (fun h => Nat.ne_of_lt h) h.asc
def lookI (es : Ent) (z : Int) : Option Fd := if z < 0 then none else lookE es z.toNat
def insF (F : List Fd) (t : Tb) : Ins → Option Fd
  | .new y x => some (y, x)
  | .again n => lookI t.es ((t.made : Int) - 1 - (n : Int))
  | .fixed n x => (F[n]?).map fun f => (f.1, x)
  | .entry n x => (lookI t.es ((t.made : Int) - 1 - (n : Int))).map fun f => (f.1, x)
  | .limit _ => none
def putT (t : Tb) (f : Fd) : Tb := ⟨t.bound, t.made + 1, keepE t.bound (fsz f) t.es ++ [(t.made, f)]⟩
def roomT (t : Tb) (f : Fd) : Bool := decide (fsz f ≤ t.bound) && decide (t.made < 9999)
def stepT (F : List Fd) (r : Nat) (t : Tb) : Ins → Option Tb
  | .limit n => if n ≤ r then some ⟨n, t.made, keepE n 0 t.es⟩ else none
  | i => match insF F t i with
    | none => none
    | some f => if roomT t f = true then some (putT t f) else none
theorem look_mem2 {es : Ent} {z : Int} {f : Fd} (h : lookI es z = some f) : ∃ n, (n, f) ∈ es := by
  unfold lookI at h
  split at h
  · cases h
  · exact ⟨_, look_mem h⟩
theorem insF_ok {F : List Fd} {t : Tb} {i : Ins} {f : Fd} {r : Nat} (hF : ∀ f ∈ F, FdOk f) (h : TbOk r t) (hi : i.Ok) (e : insF F t i = some f) : FdOk f := by
  cases i with
  | new y x => cases e; exact ⟨hi.1, hi.2⟩
  | limit n => cases e
  | again n => obtain ⟨k, hk⟩ := look_mem2 e; exact h.fd _ hk
  | fixed n x =>
    obtain ⟨g, hg, rfl⟩ := Option.map_eq_some_iff.mp e
    exact ⟨(hF g (List.mem_of_getElem? hg)).n, hi.2⟩
  | entry n x =>
    obtain ⟨g, hg, rfl⟩ := Option.map_eq_some_iff.mp e
    obtain ⟨k, hk⟩ := look_mem2 hg
    exact ⟨(h.fd _ hk).n, hi.2⟩
theorem keep_ok {r b m : Nat} {t : Tb} (h : TbOk r t) : ((keepE b m t.es).map (·.1)).Pairwise (· < ·) ∧ (∀ e ∈ keepE b m t.es, e.1 < t.made) ∧ ∀ e ∈ keepE b m t.es, FdOk e.2 :=
  ⟨List.Pairwise.sublist (List.Sublist.map _ (keep_sub b m t.es)) h.asc, fun e he => h.lt e ((keep_sub b m t.es).subset he), fun e he => h.fd e ((keep_sub b m t.es).subset he)⟩
theorem TbOk.limit {r n : Nat} {t : Tb} (h : TbOk r t) (hn : n ≤ r) : TbOk r ⟨n, t.made, keepE n 0 t.es⟩ := by
  obtain ⟨h1, h2, h3⟩ := keep_ok (b := n) (m := 0) h
  exact ⟨h.rm, hn, by have := keep_sum (b := n) (m := 0) (by omega) t.es; show sumE (keepE n 0 t.es) ≤ n; omega, h1, h2, h.mad, h3⟩
theorem TbOk.put {r : Nat} {t : Tb} {f : Fd} (h : TbOk r t) (hf : FdOk f) (hr : roomT t f = true) : TbOk r (putT t f) := by
  obtain ⟨h1, h2, h3⟩ := keep_ok (b := t.bound) (m := fsz f) h
  unfold roomT at hr
  rw [Bool.and_eq_true, decide_eq_true_eq, decide_eq_true_eq] at hr
  refine ⟨h.rm, h.bd, ?_, ?_, ?_, by show t.made + 1 ≤ 9999; omega, ?_⟩
  · show sumE (keepE t.bound (fsz f) t.es ++ [(t.made, f)]) ≤ t.bound
    rw [sumE_app, sumE_cons]
    have := keep_sum hr.1 t.es
    show sumE (keepE t.bound (fsz f) t.es) + (fsz f + 0) ≤ t.bound
    omega
  · show ((keepE t.bound (fsz f) t.es ++ [(t.made, f)]).map (·.1)).Pairwise (· < ·)
    rw [List.map_append, List.pairwise_append]
    refine ⟨h1, by simp, ?_⟩
    intro a ha b hb
    obtain ⟨e, he, rfl⟩ := List.mem_map.mp ha
    have : b = t.made := by simpa using hb
    rw [this]; exact h2 e he
  · intro e he
    rcases List.mem_append.mp he with z | z
    · have := h2 e z; show e.1 < t.made + 1; omega
    · rw [List.mem_singleton.mp z]; show t.made < t.made + 1; omega
  · intro e he
    rcases List.mem_append.mp he with z | z
    · exact h3 e z
    · rw [List.mem_singleton.mp z]; exact hf
theorem TbOk.step {F : List Fd} {r : Nat} {t t' : Tb} {i : Ins} (hF : ∀ f ∈ F, FdOk f) (h : TbOk r t) (hi : i.Ok) (e : stepT F r t i = some t') : TbOk r t' := by
  have go : ∀ (o : Option Fd), (∀ f, o = some f → FdOk f) → (match o with | none => none | some f => if roomT t f = true then some (putT t f) else none) = some t' → TbOk r t' := by
    intro o ho e
    cases o with
    | none => cases e
    | some f =>
      simp only at e
      split at e
      · cases e; exact h.put (ho f rfl) (by assumption)
      · cases e
  cases i with
  | limit n =>
    unfold stepT at e
    simp only at e
    split at e
    · cases e; exact h.limit (by assumption)
    · cases e
  | new y x => exact go _ (fun f e2 => insF_ok hF h hi e2) e
  | again n => exact go _ (fun f e2 => insF_ok hF h hi e2) e
  | fixed n x => exact go _ (fun f e2 => insF_ok hF h hi e2) e
  | entry n x => exact go _ (fun f e2 => insF_ok hF h hi e2) e
def tb0 (r : Nat) : Tb := ⟨r, 0, []⟩
/-- these objects may have changed -/
def ButS (S : List Addr) (H H' : Hp) : Prop := ∀ b o, b ∉ S → H b = some o → H' b = some o
theorem ButS.of {S : List Addr} {H H' : Hp} (s : Same H H') : ButS S H H' := fun b o _ e => s b o e
theorem ButS.trans {S : List Addr} {H H1 H2 : Hp} (a : ButS S H H1) (b : ButS S H1 H2) : ButS S H H2 := fun c o n e => b c o n (a c o n e)
theorem ButS.mono {S S' : List Addr} {H H1 : Hp} (a : ButS S H H1) (h : ∀ b ∈ S, b ∈ S') : ButS S' H H1 := fun c o n e => a c o (fun z => n (h c z)) e
theorem ButS.set {S : List Addr} {H : Hp} {q : Addr} {o : HO} (h : q ∈ S) : ButS S H (upd H q o) := fun b u n e => by
  have nb : b ≠ q := fun z => n (by rw [z]; exact h)
  rw [upd_ne nb]; exact e
theorem ButS.ts {S : List Addr} {H H' : Hp} (b : ButS S H H') (h : ∀ a ∈ S, ∀ o, H a = some o → ¬ IsTupO o) : TS H H' := fun a u t e => by
  by_cases z : a ∈ S
  · exact absurd t (h a z u e)
  · exact b a u z e
/-- the table at a, its entries at D -/
def tfs (sv : V) (t : Tb) (D : Addr) : List (Str × V) := [("setting", sv), ("bound", .int (t.bound : Nat)), ("made", .int (t.made : Nat)), ("kept", .ref D)]
structure TblV (K : PySem.W.Frag) (C : Addr) (H : Hp) (a D : Addr) (sv : V) (F : List Fd) (r w : Nat) (t : Tb) : Prop where
  ob : ∃ dx, H a = some (.ins C dx (tfs sv t D))
  en : EntV K H D t.es
  st : SetV K H sv F r w
theorem TblV.ne {K : PySem.W.Frag} {C : Addr} {H : Hp} {a D : Addr} {sv : V} {F : List Fd} {r w : Nat} {t : Tb} (h : TblV K C H a D sv F r w t) : D ≠ a := by
  obtain ⟨dx, e⟩ := h.ob
  obtain ⟨kvs, e2, _⟩ := h.en
  intro z
  rw [z, e] at e2; cases e2
theorem TblV.same {K : PySem.W.Frag} {C : Addr} {H H' : Hp} {a D : Addr} {sv : V} {F : List Fd} {r w : Nat} {t : Tb} (h : TblV K C H a D sv F r w t) (s : Same H H') : TblV K C H' a D sv F r w t := by
  obtain ⟨dx, e⟩ := h.ob
  exact ⟨⟨dx, s _ _ e⟩, h.en.same s, h.st.ts (.of s)⟩
end Fld
namespace Fld
open PySem PySem.Spec PyProof.Rows L2
end Fld
namespace Fld
open PySem PySem.Spec PyProof.Rows L2
theorem InsV.ts {K : PySem.W.Frag} {H H' : Hp} {v : V} {i : Ins} (h : InsV K H v i) (t : TS H H') : InsV K H' v i := let ⟨a, e, s⟩ := h; ⟨a, e, t.tup s⟩
abbrev InssV (K : PySem.W.Frag) (H : Hp) (xs : List V) (is : List Ins) : Prop := Paired (InsV K H) xs is
theorem InssV.ts {K : PySem.W.Frag} {H H' : Hp} {xs : List V} {is : List Ins} (h : InssV K H xs is) (t : TS H H') : InssV K H' xs is := pmap (fun _ _ z => z.ts t) h
end Fld
/-! the law's own table: states, what its draws promise -/
namespace Fld
open PySem PySem.Spec PyProof.Rows L2
/-- all tuples and dicts stand -/
def KS (H H' : Hp) : Prop := ∀ a u, (IsTupO u ∨ ∃ kvs, u = .dK kvs) → H a = some u → H' a = some u
theorem KS.refl (H : Hp) : KS H H := fun _ _ _ e => e
theorem KS.trans {H H1 H2 : Hp} (a : KS H H1) (b : KS H1 H2) : KS H H2 := fun c u t e => b c u t (a c u t e)
theorem KS.of {H H1 : Hp} (s : Same H H1) : KS H H1 := fun c u _ e => s c u e
theorem KS.ts {H H1 : Hp} (k : KS H H1) : TS H H1 := fun a u t e => k a u (.inl t) e
theorem KS.but {p : Addr} {H H' : Hp} {xs : List V} (b : But p H H') (h : H p = some (.lst xs)) : KS H H' := fun a u t e => by
  by_cases z : a = p
  · subst z; rw [h] at e; cases e
    rcases t with t | ⟨_, t⟩
    · exact absurd t nt_lst
    · cases t
  · exact b a u z e
theorem KS.drew {p c : Addr} {H H' : Hp} {n m : Nat} (hp : Pen H p c n) (d : Drew p c H H' m) : KS H H' := by
  obtain ⟨⟨xs, e⟩, _⟩ := hp.some
  exact KS.but d.but e
theorem KS.at {H : Hp} {q : Addr} {xs : List V} {o : HO} (h : H q = some (.lst xs)) : KS H (upd H q o) := KS.but But.set h
theorem EntV.ks {K : PySem.W.Frag} {H H' : Hp} {D : Addr} {es : Ent} (h : EntV K H D es) (k : KS H H') : EntV K H' D es := by
  obtain ⟨kvs, e, p⟩ := h
  exact ⟨kvs, k _ _ (.inr ⟨_, rfl⟩) e, pmap (fun _ _ z => z.ts k.ts) p⟩
/-- a state: entries, how many, the bound -/
def StV (K : PySem.W.Frag) (H : Hp) (v : V) (t : Tb) : Prop := ∃ a D, v = .ref a ∧ SqT K H a [.ref D, .int (t.made : Nat), .int (t.bound : Nat)] ∧ EntV K H D t.es
theorem StV.ks {K : PySem.W.Frag} {H H' : Hp} {v : V} {t : Tb} (h : StV K H v t) (k : KS H H') : StV K H' v t := let ⟨a, D, e, s, n⟩ := h; ⟨a, D, e, k.ts.tup s, n.ks k⟩
theorem StV.same {K : PySem.W.Frag} {H H' : Hp} {v : V} {t : Tb} (h : StV K H v t) (s : Same H H') : StV K H' v t := h.ks (.of s)
/-- entries whose numbers rise -/
structure Asc (es : Ent) : Prop where
  asc : (es.map (·.1)).Pairwise (· < ·)
  fd : ∀ e ∈ es, FdOk e.2
  len : es.length ≤ 60
theorem Asc.nd {es : Ent} (h : Asc es) : (es.map (·.1)).Nodup := List.Pairwise.imp (fun h => Nat.ne_of_lt h) h.asc
end Fld
namespace Fld
open PySem PySem.Spec PyProof.Rows L2
end Fld
/-! != of a dict and {}; != of two equal pairs of a number and a dict -/
namespace Fld
open PySem PySem.Spec PyProof.Rows L2
section
variable {X : Cx}
end
end Fld
namespace Fld
open PySem PySem.Spec PyProof.Rows L2
theorem strOk_txt {x : Str} {a b : Int} (h : txt (.str x) a b = true) : PyData.strOk x = true := by
  show x.cps.all (· < 0x110000) = true
  rw [← Array.all_toList]
  refine List.all_eq_true.mpr fun c hc => decide_eq_true ?_
  have h1 : (charCodes.all fun c => decide (c < 0x110000)) = true := by decide
  exact of_decide_eq_true (List.all_eq_true.mp h1 c (List.contains_iff_mem.mp (List.all_eq_true.mp (txt_all h) c hc)))
end Fld
/-! a law over work: data of the work, pop, what a state tells -/
namespace Fld
open PySem PySem.Spec PyProof.Rows L2
theorem InssV.dp {K : PySem.W.Frag} {H : Hp} : ∀ {xs : List V} {is : List Ins}, InssV K H xs is → DpAll K H xs (is.map Ins.dat)
  | _, _, .nil => .nil
  | _, _, .cons h t => by
    obtain ⟨a, rfl, s⟩ := h
    exact .cons (dp_ins s) (InssV.dp t)
/-- a state or None -/
def OSt (K : PySem.W.Frag) (H : Hp) (v : V) (r n : Nat) : Option Tb → Prop
  | none => v = .non
  | some t => StV K H v t ∧ TbOk r t ∧ t.made ≤ n
theorem OSt.ks {K : PySem.W.Frag} {H H' : Hp} {v : V} {r n : Nat} {o : Option Tb} (h : OSt K H v r n o) (k : KS H H') : OSt K H' v r n o := by
  cases o with
  | none => exact h
  | some t => exact ⟨h.1.ks k, h.2⟩
end Fld
/-! list(enumerate(t)), t a tuple -/
namespace PySem
open Sem (wp)
open PySem.W (kdx_alive)
section
variable {prog : Program} {w : World} {A : Around} {E : Value → Shared → Prop} {s : Shared}
/-- the count stands at i; what was given out last is held -/
def EnSt (h : Heap) (e it S : Addr) (i : Nat) : Prop :=
  (∃ old, IsEnum h e it (i : Nat) old) ∨ ∃ T old f oT, IsEnumHeld h e it (i : Nat) old T f ∧ h.get? T = some oT ∧ T ≠ e ∧ T ≠ it ∧ T ≠ S
theorem EnSt.keep {h h' : Heap} {e it S : Addr} {i : Nat} (x : EnSt h e it S i) (hk : ∀ b o, b ≠ S → h.get? b = some o → h'.get? b = some o) (he : e ≠ S) : EnSt h' e it S i := by
  rcases x with ⟨old, q⟩ | ⟨T, old, f, oT, q, hT, h1, h2, h3⟩
  · exact .inl ⟨old, hk _ _ he q⟩
  · exact .inr ⟨T, old, f, oT, hk _ _ he q, hk _ _ h3 hT, h1, h2, h3⟩
end
end PySem
namespace L2
open PySem PySem.Spec PyProof.Rows
/-- the pairs told so far -/
structure EnP (xs : List V) (H0 H : Hp) (q : Addr) (i : Nat) : Prop where
  ex : ∃ ts : List Addr, ts.length = i ∧ H q = some (.lst (ts.map V.ref)) ∧ ∀ (j : Nat) (t : Addr) (x : V), ts[j]? = some t → xs[j]? = some x → H t = some (.tup [.int (j : Nat), x])
  same : Same H0 H
theorem EnP.step {xs : List V} {H0 H : Hp} {q T : Addr} {i : Nat} {x : V} (h : EnP xs H0 H q i) (hq : H0 q = none) (hT : H T = none) (hx : xs[i]? = some x) {ys : List V} (hl : H q = some (.lst ys)) :
    EnP xs H0 (upd (upd H T (.tup [.int (i : Nat), x])) q (.lst (ys ++ [.ref T]))) q (i + 1) := by
  obtain ⟨⟨ts, hts, e1, hp⟩, hs⟩ := h
  rw [hl] at e1
  injection e1 with e1
  injection e1 with e1
  subst e1
  have hqT : q ≠ T := fun z => by rw [z, hT] at hl; cases hl
  refine ⟨⟨ts ++ [T], by rw [List.length_append, hts]; rfl, by rw [upd_same, List.map_append]; rfl, fun j t y hj hy => ?_⟩, fun b u hb => ?_⟩
  · rcases Nat.lt_trichotomy j ts.length with h1 | h1 | h1
    · rw [List.getElem?_append_left h1] at hj
      have e := hp j t y hj hy
      have n1 : t ≠ q := fun z => by rw [z, hl] at e; cases e
      have n2 : t ≠ T := fun z => by rw [z, hT] at e; cases e
      rw [upd_ne n1, upd_ne n2]; exact e
    · subst h1
      have et : T = t := by simpa using hj
      subst et
      rw [hts, hx] at hy
      injection hy with hy
      subst hy
      rw [upd_ne (Ne.symm hqT), upd_same, hts]
    · rw [List.getElem?_eq_none (by rw [List.length_append, List.length_singleton]; omega)] at hj
      cases hj
  · have n1 : b ≠ q := fun z => by rw [z, hq] at hb; cases hb
    have e := hs b u hb
    have n2 : b ≠ T := fun z => by rw [z, hT] at e; cases e
    show upd (upd H T _) q _ b = some u
    rw [upd_ne n1, upd_ne n2]; exact e
section
variable {X : Cx} {pins : List (Addr × Obj)} {σ : St} {A1 : Around}
end
end L2
/-! what an instruction, an answer is, over data of any kind -/
namespace Fld
open PySem PySem.Spec PyProof.Rows L2
end Fld
namespace Fld
open PySem PySem.Spec PyProof.Rows L2
end Fld
/-! a kept error that has a dict: isinstance, its attribute; count and index of Booleans -/
namespace PySem.W
open PySem PySem.Spec PySem.Calls PyProof.Rows
/-- what is written of the class decides `__class__`, whatever the instance's own dict holds -/
theorem own_class_of {K : Frag} {D : Addr} {o : Option Obj} (C : L2.ExcC K D) : findObj K D o "__class__" = some (.bind (.builtin "getset_descriptor.__get__") (.builtin "object.__class__")) := by
  obtain ⟨body, hb, _⟩ := any_some C.hd
  unfold findObj
  simp only [hb, C.ha, Option.bind_some]
  simp [C.hn, C.ht]
/-- error.__class__ is the class -/
theorem own_class_get {P : Program} {w : World} {B : Around} {F : Value → Shared → Prop} {t : Shared} {K : Frag} {e D : Addr} {oe : Obj} {o : Option Obj} {R : Option Value → Shared → Prop} (C : L2.ExcC K D) (hK : K.In t.heap) (J : InstAt t.heap e oe D o) (q : R (some (.ref D)) { t with toks := t.toks + 1 }) :
    wpAny (model P w) B (getAttr? (.ref e) "__class__") R F t := by
  obtain ⟨hp, gs, ds, tk, os⟩ := t
  dsimp only at hK J q ⊢
  have ty := J.type (M := model P w)
  have isB : Looks (model P w) hp (isInstance (.ref e) (.type "BaseException")) true := ty.andThen (looks_subIn hK C.hs)
  have noG := looks_findIn (M := model P w) hK C.hk
  have atA := looks_findIn (M := model P w) hK C.hg
  have cls := looks_find (M := model P w) hK J (own_class_of C)
  have off : (onTheHeap (Value.ref D) && (Value.builtin "BaseException.__getattribute__" == Value.builtin "object.__getattribute__")) = false := by
    rw [show (Value.builtin "BaseException.__getattribute__" == Value.builtin "object.__getattribute__") = false by decide +kernel, Bool.and_false]
  unfold getAttr? getAttrBy? getAttrBy; apply wpAny_bind; apply wpAny_mkText; apply wpAny_bind; apply wpAny_attempt; apply wpAny_holding; apply wpAny_bind
  refine ty.at (wpAny_bind (atA.at (?_ : wpAny _ _ (if (onTheHeap (Value.ref D) && (Value.builtin "BaseException.__getattribute__" == Value.builtin "object.__getattribute__")) = true then _ else _) _ _ _)))
  rw [if_neg (by rw [off]; decide)]; unfold getAttrByItsOwn hookBefore; apply wpAny_bind
  rw [if_pos (show onTheHeap (Value.ref D) = true from rfl)]; refine noG.at ?_; apply wpAny_bind; apply wpAny_attempt; apply wpAny_holding
  unfold callGetattribute boundAndCalled; rw [if_neg (show ¬ ((false && onTheHeap (Value.builtin "BaseException.__getattribute__")) = true) from Bool.false_ne_true), PySem.F.excAttr_ValueError.ga.bind (.ref e)]; apply wpAny_bind; apply wpAny_pure
  refine (?_ : wpAny (model P w) _ (call (.builtin "BaseException.__getattribute__") [.ref e, .str "__class__" tk]) _ _ _)
  apply wpAny_call; refine codeAny_call_builtin PySem.F.excAttr_ValueError.ga.plain PySem.F.entry_bexc_ga ?_
  refine @check_slot (model P w) _ _ ⟨hp, gs, ds, tk + 1, os⟩ "BaseException.__getattribute__" "BaseException" "__getattribute__" (.ref e) [.str "__class__" tk] [] _ ?_ ?_ isB (PySem.F.args_bexc_ga (.ref e) (.str "__class__" tk)) ?_
  · decide +kernel
  · decide +kernel
  unfold Builtin.«object.__getattribute__»; apply wpAny_bind
  refine wpAny_of_eq (a := ((Value.ref e : Value), [Value.str "__class__" tk])) (by first | rfl | (simp only [slotArgs]; rfl)) (wpAny_bind (wpAny_pure (wpAny_bind (ty.at (wpAny_bind (cls.at ?_))))))
  refine (?_ : wpAny (model P w) _ (holding [Value.builtin "object.__class__"] (call (.builtin "getset_descriptor.__get__") [.builtin "object.__class__", .ref e, .ref D]) >>= ret) _ _ _)
  apply wpAny_bind; apply wpAny_holding; refine wpAny_call (class_get (s := ⟨hp, gs, ds, tk + 1, os⟩) (ox := oe) (od := o) hK J C.hm (wpAny_pure ?_))
  refine (?_ : wpAny (model P w) _ (handedOut (.ref D)) _ _ _)
  rw [handedOut_of (v := .ref D) rfl]
  first
    | exact wpAny_pure (wpAny_pure q)
    | exact wpAny_pure q
    | exact wpAny_pure (wpAny_bind (wpAny_pure (wpAny_pure q)))
/-- what isinstance asks of an error with or without a dict -/
theorem kit_err {K : Frag} {e D : Addr} {oe : Obj} {o : Option Obj} (C : L2.ExcC K D) : KitX K (.ref e) (.ref D) (fun h => InstAt h e oe D o) := by
  have isCls : ∃ c d cd sl, K.lookup D = some ⟨c, d, .cls cd, sl⟩ := by
    obtain ⟨cd, hc, _⟩ := any_some C.hd
    unfold clsIn at hc
    split at hc
    · rename_i c' d' cd' sl' h; exact ⟨c', d', cd', sl', h⟩
    · cases hc
  obtain ⟨c, d, cd, sl, hD⟩ := isCls
  refine ⟨fun _ _ _ J => J.type, fun _ _ hK _ => fun A' Q' E' s' k q => ?_, fun h tp dd its n sl' hK htp => ?_, fun hK J q => own_class_get C hK J q⟩
  · unfold isType loadHead
    exact wpAny_bind (wpAny_loadPart (k _ _ (hK _ _ hD)) (wpAny_pure q))
  · cases z : (Value.ref D == Value.ref tp) with
    | false => rfl
    | true =>
      have : D = tp := Value.ref.inj (beq_iff_eq.mp z)
      rw [← this, hK _ _ hD] at htp
      cases htp
end PySem.W
namespace Fld
open PySem PySem.Spec PyProof.Rows L2
/-- at a: a kept error of the class D with these attributes -/
def ErrD (H : Hp) (a D : Addr) (fs : List (Str × V)) : Prop := ∃ d, H a = some (ExK (.ref D) (some d) a) ∧ H d = some (.xd fs)
def rIsXd (K : PySem.W.Frag) : List V → Hp → VK → Prop := fun xs H Q => ∃ (a D : Addr) (fs : List (Str × V)) (c : V) (cv : Value) (b : Bool), xs = [.ref a, c] ∧ ErrD H a D fs ∧ ExcC K D ∧ ClsV c cv ∧ PySem.W.kitOne K (.ref D) cv = some b ∧ Q (.bl b) H
theorem call_isXd {X : Cx} : CallR X (.builtin "isinstance") (rIsXd X.K) := by
  intro pins s σ H xs us Q I r h
  obtain ⟨a, D, fs, c, cv, b, rfl, ⟨d, ha, hd⟩, C, hcv, e, q⟩ := h
  obtain ⟨u1, u2, rfl, r1, r2⟩ := vals2 r
  cases (show u1 = Value.ref a from r1)
  cases hcv.eq r2
  obtain ⟨⟨oe, vs, hget, hz, hv⟩, _⟩ := I.hok a _ ha
  obtain ⟨mA, hns, _⟩ : ObjOk X.prog X.w H s.heap d (.xd fs) := I.hok d _ hd
  obtain ⟨od, ho, _⟩ := lookIn_ns hns
  have J : PySem.W.InstAt s.heap a oe D (some od) := ⟨hget, hz.1, by unfold PySem.W.notCls; rw [hv] <;> rfl, by rw [hz.2]; exact ho⟩
  exact PySem.W.kia_one (PySem.W.kit_err C) I.kIn J e (fun z => nomatch z) fun tk => ⟨.bl b, H, I.kept (t' := tk) fun _ _ z => z, rfl, q⟩
def rIsW (K : PySem.W.Frag) : List V → Hp → VK → Prop := fun xs H Q => rIsU K xs H Q ∨ rIsXd K xs H Q
theorem call_isW {X : Cx} : CallR X (.builtin "isinstance") (rIsW X.K) := by
  intro pins s σ H xs us Q I r h
  rcases h with h | h
  · exact call_isU pins s σ H xs us Q I r h
  · exact call_isXd pins s σ H xs us Q I r h
/-- x.f, x a kept error with this attribute -/
def tXd (K : PySem.W.Frag) (f : Str) (te : TE) : TE := fun σ H Q => te σ H fun x H1 => ∃ (a C : Addr) (fs : List (Str × V)) (v : V), x = .ref a ∧ XfC K C ∧ PySem.W.findIn K (.ref C) f = some none ∧ ErrD H1 a C fs ∧ fs.lookup f = some v ∧ Q v H1
theorem pe_xd {X : Cx} {e : Expr} {te : TE} {pos : Pos} {n : Str} (he : PE X e te) (hb : attributeBase e n X.env (eval e X.env) = eval e X.env := by rfl) : PE X (.Attribute e n pos) (tXd X.K n te) := by
  refine ⟨fun pins s σ H Q I h => attr_of hb (thn (he.run pins s σ H _ I h) fun u s1 hh => ?_)⟩
  obtain ⟨x, H1, I1, rx, a, C, fs, v, ex, T, hno, ⟨d, ha, hd⟩, l, q⟩ := hh
  subst ex
  obtain rfl : u = Value.ref a := rx
  obtain ⟨⟨oe, vs, hget, hz, hv⟩, _⟩ := I1.hok a _ ha
  obtain ⟨mA, hns, hr⟩ : ObjOk X.prog X.w H1 s1.heap d (.xd fs) := I1.hok d _ hd
  obtain ⟨od, ho, hl⟩ := lookIn_ns hns
  obtain ⟨u, hu, ru⟩ := RelO.some_of (v := v) (o := mA n) (by rw [← l]; exact hr n)
  have J : PySem.W.InstAt s1.heap a oe C (some od) := ⟨hget, hz.1, by unfold PySem.W.notCls; rw [hv] <;> rfl, by rw [hz.2]; exact ho⟩
  exact HandSPX.exc_get I1.kIn J T.ga T.gg T.exC (PySem.W.findObj_own T.hdC hno rfl (by rw [hl, hu])) (handed_of ru) ⟨v, H1, I1.tok _, ru, q⟩
end Fld
namespace Fld
open PySem PySem.Spec PyProof.Rows L2
end Fld
namespace Fld
open PySem PySem.Spec PyProof.Rows L2
theorem IsC.not {K : PySem.W.Frag} {C D : Addr} (h : IsC K C) (s : PySem.W.subIn K (.ref D) (.ref C) = some false) (sf : PySem.W.subIn K (.ref C) (.ref C) = some true) : PySem.W.kitOne K (.ref D) (.ref C) = some false := kit_own h.x.hd h.t s fun _ => by
  cases z : (Value.ref D == Value.ref C) with
  | false => rfl
  | true =>
    have : D = C := Value.ref.inj (beq_iff_eq.mp z)
    rw [this, sf] at s; cases s
theorem xfc_of {K : PySem.W.Frag} {C : Addr} (x : ExcC K C) : XfC K C := ⟨x.hg, x.hk, x.hs, x.hd⟩
end Fld
namespace Fld
open PySem PySem.Spec PyProof.Rows L2
end Fld
namespace Fld
open PySem PySem.Spec PyProof.Rows L2
end Fld
/-! The law's own def, called from outside, where tables of code objects are known: so that lambdas may be made. -/
namespace Fld
open PySem PySem.Spec PyProof.Rows L2 LamX
/-- a def as it is called from outside; cs: code objects and their tables -/
structure TopOkT (P : Program) (w : World) (K : PySem.W.Frag) (mg : Str → Option Value) (cs : List (Addr × Addr)) (k : Nat) (f : Addr) (fd : FuncData) (ps : List Str) (sp : Sp) : Prop where
  len : ∀ vs H Q E, sp vs H Q E → vs.length = ps.length
  run : ∀ (base : Heap) (s : Shared) (H : Hp) (args : Args) (us : List Value) (vs : List V) (Q : VK) (E : XK), (∀ p ∈ cs, TabB base mg p.1 p.2) → Room k callerA → Env0 P w K mg base callerA [] s H → BindsTo s fd args (ps.zip us) → Vals vs us → sp vs H Q E →
    codeAny (model P w) callerA (.call (.ref f) args) (CR CX0 [] P w H s Q E) s
/-- its body as a term of rules and the term's reading, the guards and the code object told -/
theorem top_ofT {P : Program} {w : World} {K : PySem.W.Frag} {mg : Str → Option Value} {x qual : Str} {st : Stmt} {f : Addr} {fd : FuncData} {N ps : List Str} {k : Nat} {sp : Sp} {cs : List (Addr × Addr)} (F : Fun K x qual st f fd) (S : FnScope N ps (defScope st))
    (len : ∀ vs H Q E, sp vs H Q E → vs.length = ps.length)
    (hbody : ∀ (base : Heap) (cdv : Value) (A : Around) (outer : List Env) (s : Shared) (H : Hp) (vs : List V) (Q : VK) (E : XK), (∀ p ∈ cs, TabB base mg p.1 p.2) → fd.code = cdv → A.guards = some [] → Room k (A.deeper (envOfC qual (defScope st) s.heap.objs.size f cdv)) → sp vs H Q E →
      ∃ t, PSs (cxOf CX0 P w K mg base N qual (defScope st) f cdv A outer s H E).nox (defBody st) t ∧ t { nx := fun _ H' => Q .non H', rt := Q } (start N vs) H) :
    TopOkT P w K mg cs (k + 1) f fd ps sp := by
  obtain ⟨oc, od, kV, doc, pm, an, cdv, ct, osl, rfl, lk, hcd⟩ := F.ex
  refine ⟨len, ?_⟩
  intro base s H args us vs Q E TB hr e0 hb r hsp
  have old := fun b o (e : base.get? b = some o) => (e0.bs b o e).1
  have KX : K.In s.heap := e0.mod.kin.keeps old
  have kinds : ∀ y ∈ ps.zip us, (defScope st).names.lookup y.1 = some .local ∨ ((defScope st).names.lookup y.1 = some .cell ∧ ((cellsFrom (s.heap.objs.size + 1) (defScope st).names []).lookup y.1).isSome = true) := by
    rintro ⟨n, v⟩ hy
    have hp := S.par n (List.of_mem_zip hy).1
    exact hp.elim Or.inl fun q => Or.inr ⟨q, PySem.W.cellsFrom_some _ _ _ (Or.inl q)⟩
  refine codeAny_call_function hr.depth (KX _ _ lk) rfl S.co S.gen rfl (PySem.W.codeRec_of KX hcd) (hb _ _ _ _ (wpAny_newFunctionEnv_cells S.kind kinds ?_))
  intro env he s1 x
  cases he
  refine ⟨(e0.mod.nolimit.keeps old).keeps x.toInCall.keep, codeAny_func ?_⟩
  obtain ⟨t, ht, hq⟩ := hbody base cdv callerA [] s H vs Q E TB rfl rfl (hr.deeper _) hsp
  have I := inv_start (CX := CX0) (E := E) S hr.hd e0 (len _ _ _ _ hsp) r x
  refine wpAny_mono (ht.nox.run [] s1 (start N vs) H _ I hq) ?_ fun _ _ z => z
  intro fl s' hs
  match fl, hs with
  | .ret u, ⟨v, _, H', J, rv, q⟩ => exact ⟨v, H', J.os, J.bare, J.base, J.hok, rv, q⟩
  | .next, ⟨_, H', J, q⟩ => exact ⟨V.non, H', J.os, J.bare, J.base, J.hok, rfl, q⟩
  | .brk, ⟨_, _, _, q⟩ => exact q.elim
  | .cont, ⟨_, _, _, q⟩ => exact q.elim
/-- what stands at the law's entry: the script, locked, and empty tables -/
def OnlyT (cs : List (Addr × Addr)) (H : Hp) : Prop := (∀ p ∈ cs, H p.2 = some (.tbl #[])) ∧ ∀ b, H b = none ∨ b ∈ cs.map (·.2) ∨ ∃ o xs, H b = some (.frz o (.lst xs))
/-- law_callTs asks FnOk; here the same of a def that is called from outside -/
theorem top_callT {P : Program} {w : World} {K : PySem.W.Frag} {mg mb : Str → Option Value} {k : Nat} {fa a : Addr} {cs : List (Addr × Addr)} {fd : FuncData} {x : Str} {sp : Sp} {s₁ : Shared} {vs : List Value} {ns : List Int}
    (KX : K.In s₁.heap) (hns : s₁.heap.Ns mainGlobals mg) (hb : s₁.heap.Ns builtinsNs mb) (hbb : ∀ x : Str, x ≠ "__name__" → mb x = bootBuiltins x) (hlim : s₁.heap.NoLimit) (hg : s₁.gens = #[])
    (hT : ∀ p ∈ cs, s₁.heap.get? p.2 = some { cls := .none, data := .fields #[] }) (nT : ∀ p ∈ cs, K.lookup p.2 = none) (C : ∀ p ∈ cs, PySem.W.CodeHd s₁.heap p.1 p.2)
    (hbm : ∃ (bm : Addr) (ob : Obj), mg "__builtins__" = some (.ref bm) ∧ bm ≠ builtinsNs ∧ s₁.heap.get? bm = some ob ∧ ob.cls = .type "module" ∧ ob.dict = some builtinsNs ∧ ob.data = .plain)
    (ha : s₁.heap.get? a = some { cls := .type "list", data := .seq vs.toArray }) (hi : IntsAre vs ns) (hl : ns.length ≤ sizeLine) (hr : Room k callerA) (F : TopOkT P w K mg cs k fa fd [x] sp) (hbind : ∀ (s : Shared) (u : Value), BindsTo s fd ⟨[u], []⟩ [(x, u)])
    (hsp : ∀ H : Hp, OnlyT cs H → SqL K H a (ns.map V.int) → sp [.ref a] H (fun v _ => v = .bl true) fun _ _ _ => False) :
    codeAny (model P w) callerA (.call (.ref fa) ⟨[.ref a], []⟩) (fun r s' => r = .ok (.ret (.bool true)) ∧ OldK s₁.heap s'.heap ∧ s'.os = s₁.os ∧ AllBare s'.gens) s₁ := by
  have rv := vals_of_ints hi
  have lenV := hi.length
  have isT : ∀ b : Addr, b ∈ cs.map (·.2) → s₁.heap.get? b = some { cls := .none, data := .fields #[] } := fun b m => by
    obtain ⟨p, hp, rfl⟩ := List.mem_map.mp m
    exact hT p hp
  have aT : a ∉ cs.map (·.2) := fun z => by
    have e := isT a z
    rw [ha] at e
    cases congrArg Obj.data (Option.some.inj e)
  have core : ∀ H : Hp, OnlyT cs H → SqL K H a (ns.map V.int) → HOk P w H s₁.heap → (∀ b, H b ≠ none → b = a ∨ b ∈ cs.map (·.2)) → (H a ≠ none → K.lookup a = none) →
      codeAny (model P w) callerA (.call (.ref fa) ⟨[.ref a], []⟩) (fun r s' => r = .ok (.ret (.bool true)) ∧ OldK s₁.heap s'.heap ∧ s'.os = s₁.os ∧ AllBare s'.gens) s₁ := by
    intro H hO hS hok hA hK
    have other : ∀ {b : Addr} {o : Obj}, s₁.heap.get? b = some o → (∀ vs n, o.data ≠ .seq vs n) → o.data ≠ .fields #[] → (hidT s₁.heap H).get? b = some o := fun {b o} e h1 h2 => hidT_get e (by
      cases q : H b with
      | none => rfl
      | some u =>
        exfalso
        rcases hA b (by rw [q]; simp) with z | z
        · rw [z, ha] at e; cases e; exact h1 _ _ rfl
        · rw [isT b z] at e; cases e; exact h2 rfl)
    have nsK : ∀ {b : Addr} {m : Str → Option Value}, s₁.heap.Ns b m → (hidT s₁.heap H).Ns b m := fun {b m} ⟨o, es, ep, e, d, r⟩ => ⟨o, es, ep, other e (fun vs n z => by rw [d] at z; cases z) (fun z => by rw [d] at z; cases z), d, r⟩
    have inK : K.In (hidT s₁.heap H) := fun b o e => hidT_get (KX b o e) (by
      cases q : H b with
      | none => rfl
      | some u =>
        rcases hA b (by rw [q]; simp) with z | z
        · rw [z] at e q
          rw [hK (by rw [q]; simp)] at e; cases e
        · obtain ⟨p, hp, ep⟩ := List.mem_map.mp z
          rw [← ep, nT p hp] at e; cases e)
    have M : Mod K mg (hidT s₁.heap H) := ⟨inK, nsK hns, ⟨mb, nsK hb, hbb⟩, let ⟨mc, h1, h2⟩ := hlim; ⟨mc, nsK h1, h2⟩⟩
    have TB : ∀ p ∈ cs, TabB (hidT s₁.heap H) mg p.1 p.2 := fun p hp => by
      have eP := hT p hp
      refine ⟨?_, ?_, fun z => ?_⟩
      · obtain ⟨o, us, file, tf, flags, tg, inF, text, tt, e1, r1, r2, r3, r⟩ := C p hp
        exact ⟨o, us, file, tf, flags, tg, inF, text, tt, other e1 (fun vs n z => by rw [r2] at z; cases z) (fun z => by rw [r2] at z; cases z; simp at r3), r1, r2, r3, r⟩
      · obtain ⟨bm, ob, b1, b2, b3, b4, b5, b6⟩ := hbm
        refine ⟨bm, ob, b1, b2, fun q => ?_, fun q => ?_, other b3 (fun vs n z => by rw [b6] at z; cases z) (fun z => by rw [b6] at z; cases z), b4, b5, b6⟩
        · obtain ⟨o, es, ep, e, hd, _⟩ := hns
          rw [q, e] at b3
          cases b3
          rw [hd] at b6; cases b6
        · rw [q, eP] at b3
          cases b3
          cases b6
      · obtain ⟨o, es, ep, e, hd, _⟩ := hns
        rw [z, eP] at e
        cases e
        cases hd
    have none_in : ∀ b : Addr, b ∉ frs [] := fun b z => (nomatch (show b ∈ ([] : List Addr) from z))
    have e0 : Env0 P w K mg (hidT s₁.heap H) callerA [] s₁ H := { frames := rfl, mod := M, bs := fun b o e => of_hidT e, bsz := Nat.le_of_eq (hidT_size _ _), funs := trivial, frf := fun b z => (none_in b z).elim, hok := hok, bare := .of_eq hg }
    refine codeAny_mono (F.run _ s₁ H ⟨[.ref a], []⟩ [.ref a] [.ref a] _ _ TB hr e0 (hbind s₁ (.ref a)) (.cons rfl .nil) (hsp H hO hS)) ?_
    intro r s' h
    match r, h with
    | .ok (.ret u), ⟨v, H', os, bare, un, hok', rv, q⟩ =>
      cases (show v = .bl true from q)
      cases (show u = Value.bool true from rv)
      have key : ∀ b o, b ∉ cs.map (·.2) → s₁.heap.get? b = some o → s'.heap.get? b = some o := fun b o nb e => by
        rcases hO.2 b with z | z | ⟨ob, xs, z⟩
        · exact un.keep b o e z (none_in b) (by simp)
        · exact absurd z nb
        · have e1 := (hok b _ z).1
          rw [e] at e1
          cases e1
          exact (hok' b _ (un.frzs b _ _ z)).1
      have grown : ∀ p ∈ cs, ∃ more : Array Value, s'.heap.get? p.2 = some { cls := .none, data := .fields more } := fun p hp => by
        obtain ⟨more, z⟩ := un.tbls p.2 #[] (hO.1 p hp)
        exact ⟨_, hok' p.2 _ z⟩
      refine ⟨rfl, ⟨fun b o e => ?_, fun b o e => ?_⟩, os, bare⟩
      · by_cases hb : b ∈ cs.map (·.2)
        · obtain ⟨p, hp, ep⟩ := List.mem_map.mp hb
          obtain ⟨more, hm⟩ := grown p hp
          rw [← ep] at e ⊢
          rw [hT p hp] at e
          cases e
          exact .inr (.inl ⟨((C p hp).tab (hT p hp)).isCodeTable, rfl, #[], more, rfl, by rw [Array.empty_append]; exact hm⟩)
        · exact .inl (key b o hb e)
      · by_cases hb : b ∈ cs.map (·.2)
        · obtain ⟨p, hp, ep⟩ := List.mem_map.mp hb
          obtain ⟨more, hm⟩ := grown p hp
          rw [← ep]
          exact ⟨_, hm⟩
        · exact ⟨o, key b o hb e⟩
  have tT : ∀ p ∈ cs, p.2 ∈ cs.map (·.2) := fun p hp => List.mem_map.mpr ⟨p, hp, rfl⟩
  let HT : Hp := fun b => if b ∈ cs.map (·.2) then some (.tbl #[]) else none
  have atT : ∀ {b}, b ∈ cs.map (·.2) → HT b = some (.tbl #[]) := fun h => if_pos h
  have noT : ∀ {b}, b ∉ cs.map (·.2) → HT b = none := fun h => if_neg h
  cases hk : K.lookup a with
  | some o =>
    have e := KX a o hk
    rw [ha] at e
    cases e
    refine core HT ⟨fun p hp => atT (tT p hp), fun b => ?_⟩ (.inr ⟨_, vs.toArray, _, hk, rfl, rfl, rfl, by rw [List.size_toArray, lenV]; exact hl, by simpa using rv⟩) (fun b u z => ?_) (fun b z => ?_) fun z => absurd (noT aT) z
    · by_cases hb : b ∈ cs.map (·.2)
      · exact .inr (.inl hb)
      · exact .inl (noT hb)
    · by_cases hb : b ∈ cs.map (·.2)
      · rw [atT hb] at z; cases z; exact isT b hb
      · rw [noT hb] at z; cases z
    · by_cases hb : b ∈ cs.map (·.2)
      · exact .inr hb
      · exact absurd (noT hb) z
  | none =>
    let HA : Hp := fun b => if b = a then some (.frz { cls := .type "list", data := .seq vs.toArray } (.lst (ns.map V.int))) else HT b
    have atA : HA a = some (.frz { cls := .type "list", data := .seq vs.toArray } (.lst (ns.map V.int))) := if_pos rfl
    have off : ∀ {b}, b ≠ a → HA b = HT b := fun h => if_neg h
    refine core HA ⟨fun p hp => ?_, fun b => ?_⟩ (.inl (.inr ⟨_, atA⟩)) (fun b u z => ?_) (fun b z => ?_) fun _ => hk
    · rw [off (fun z => aT (z ▸ tT p hp))]; exact atT (tT p hp)
    · by_cases hb : b = a
      · exact .inr (.inr ⟨_, _, hb ▸ atA⟩)
      · rw [off hb]
        by_cases hb2 : b ∈ cs.map (·.2)
        · exact .inr (.inl hb2)
        · exact .inl (noT hb2)
    · by_cases hb : b = a
      · subst hb
        rw [atA] at z
        cases z
        exact ⟨ha, by rw [List.length_map]; exact hl, vs, _, rv, ha⟩
      · rw [off hb] at z
        by_cases hb2 : b ∈ cs.map (·.2)
        · rw [atT hb2] at z; cases z; exact isT b hb2
        · rw [noT hb2] at z; cases z
    · by_cases hb : b = a
      · exact .inl hb
      · rw [off hb] at z
        by_cases hb2 : b ∈ cs.map (·.2)
        · exact .inr hb2
        · exact absurd (noT hb2) z
theorem walk_topT {l : PySem.W.OpenLaw} {n k : Nat} {q : Program} {loose : List Str} {XP : (Str → Option Value) → Heap → Prop} {YP : World → Heap → Prop} {d : DefRec} {K : Params → PySem.W.Frag} {sp : World → List (Addr × Addr) → Sp} {x : Str} {tn : List Str}
    (hn : l.most = some n) (hn2 : n ≤ sizeLine) (hdf : d.params.defaults = []) (hr : Room k callerA)
    (hrec : ∀ y ∈ tn, ((recsOf q).find? fun e => e.name == y).isSome = true)
    (hY : ∀ (w : World) (h : Heap), YP w h → (K w.params).In h)
    (F : ∀ (w : World) (mg : Str → Option Value) (fa : Addr) (h : Heap), (K w.params).In h → h.Ns mainGlobals mg → mg d.name = some (.ref fa) →
      ∃ (cs : List (Addr × Addr)) (fd : FuncData), tn.map (PySem.W.tabIn (K w.params)) = cs.map some ∧ (∀ p ∈ cs, (K w.params).lookup p.2 = none) ∧ (∀ (s : Shared) (u : Value), BindsTo s fd ⟨[u], []⟩ [(x, u)]) ∧ TopOkT l.prog w (K w.params) mg cs k fa fd [x] (sp w cs))
    (hsp : ∀ (w : World) (cs : List (Addr × Addr)) (H : Hp) (a : Addr) (ns : List Int), ns.length ≤ n → OnlyT cs H → SqL (K w.params) H a (ns.map V.int) → sp w cs [.ref a] H (fun v _ => v = .bl true) fun _ _ _ => False) :
    PySem.W.WalkO q loose XP YP l.row.toRowW d [] (fun f vs => PySem.call f vs) := by
  refine Att.attach_call hn hdf ?_
  intro w s₀ s₁ mg mb fa o pm cd doc a vs ns G Y ho hd hcd hmg hobj hints hlen hg
  obtain ⟨cs, fd, htn, nT, hbi, hF⟩ := F w mg fa _ (hY w _ Y) G.T.g hmg
  have tabs : ∀ p ∈ cs, PySem.W.CodeHd s₁.heap p.1 p.2 ∧ s₁.heap.get? p.2 = some { cls := .none, data := .fields #[] } := fun p hp => by
    have : some p ∈ tn.map (PySem.W.tabIn (K w.params)) := by rw [htn]; exact List.mem_map.mpr ⟨p, hp, rfl⟩
    obtain ⟨y, hy, e⟩ := List.mem_map.mp this
    obtain ⟨dd, hdd⟩ := Option.isSome_iff_exists.mp (hrec y hy)
    exact PySem.W.tab_of G.T (hY w _ Y) hdd e
  exact top_callT (hY w _ Y) G.T.g G.T.b G.T.builtins G.T.nolimit hg (fun p hp => (tabs p hp).2) nT (fun p hp => (tabs p hp).1) G.T.bmain hobj hints (Nat.le_trans hlen hn2) hr hF hbi fun H hO hS => hsp w cs H a ns hlen hO hS
/-- the code object of a def -/
theorem fun_codeT {K : PySem.W.Frag} {x qual : Str} {st : Stmt} {f : Addr} {fd : FuncData} {h : Heap} {mg : Str → Option Value} {c P : Addr} (F : Fun K x qual st f fd) (X : K.In h) (G : h.Ns mainGlobals mg) (hm : mg x = some (.ref f)) (ht : PySem.W.tabIn K x = some (c, P)) : fd.code = .ref c := by
  obtain ⟨oc, od, kV, doc, pm, an, cdv, ct, osl, rfl, lk, hcd⟩ := F.ex
  exact PySem.W.law_code X G ht hm (X _ _ lk) rfl
/-- a def's code object and its table, by what is written -/
theorem tab_mk {K : PySem.W.Frag} {x : Str} {f c P : Addr} {oc cd : Value} {od : Option Addr} {sl : Array (Option Value)} {fd : FuncData} {q1 : Value} {q2 : Option Addr} {vs : Array Value} {q3 : Array (Option Value)} (ha : PySem.W.nsIn K mainGlobals x = some (some (.ref f))) (hl : K.lookup f = some ⟨oc, od, .func fd, sl⟩) (hfd : fd.code = cd) (hc : cd = .ref c)
    (hk : K.lookup c = some ⟨q1, q2, .fields vs, q3⟩) (hv : (vs[11]? : Option Value) = some (.ref P)) : PySem.W.tabIn K x = some (c, P) := by
  unfold PySem.W.tabIn
  rw [ha]
  dsimp only
  rw [hl]
  dsimp only
  rw [hfd, hc]
  dsimp only
  rw [hk]
  dsimp only
  rw [hv]
end Fld
/-! lambdas of parameters alone (nothing captured): made, kept in a name or handed on, called by the name -/
namespace Fld
open PySem PySem.Spec PyProof.Rows L2 LamX NdefX
/-- the lambda's words -/
def lamF (qual : Str) (params : Arguments) (scope : Scope) (c : Addr) : NF := ⟨"<lambda>", qual, params, [], scope, [], c⟩
/-- the object at f is the lambda F with this body -/
def LnO (f : Addr) (F : NF) (body : Expr) : HO := .ext fun h => ∃ (pm ctv : Value), h.get? f = some ({ cls := .type "function", data := .func (PySem.W.kla_fn F.name F.qual F.params body F.scope F.cl pm (.ref F.c) ctv) } : Obj)
theorem lnO_at {P : Program} {w : World} {H : Hp} {h : Heap} {f : Addr} {F : NF} {body : Expr} (hok : HOk P w H h) (e : H f = some (LnO f F body)) : ∃ (pm ctv : Value), h.get? f = some ({ cls := .type "function", data := .func (PySem.W.kla_fn F.name F.qual F.params body F.scope F.cl pm (.ref F.c) ctv) } : Obj) := by
  obtain ⟨z, _, _⟩ := hok f _ e
  exact z
section
variable {X : Cx} {pins : List (Addr × Obj)} {σ : L2.St} {H : Hp} {s : Shared}
theorem inv_ln {F : NF} {body : Expr} {t' : Nat} {pm ctv : Value} (I : Inv X pins σ H s) :
    Inv X pins σ (upd H s.heap.objs.size (LnO s.heap.objs.size F body)) { s with heap := s.heap.push ({ cls := .type "function", data := .func (PySem.W.kla_fn F.name F.qual F.params body F.scope F.cl pm (.ref F.c) ctv) } : Obj), toks := t' } := by
  refine I.laid (a := s.heap.objs.size) (fun b u e => Heap.get?_push_of_some _ e) (Nat.le_refl _) ?_
  have e := Heap.get?_push_size s.heap (o := ({ cls := .type "function", data := .func (PySem.W.kla_fn F.name F.qual F.params body F.scope F.cl pm (.ref F.c) ctv) } : Obj)) rfl
  exact ⟨⟨pm, ctv, e⟩, ⟨_, e⟩, fun h1 h2 ⟨p, t, z⟩ st => ⟨p, t, st _ z⟩⟩
theorem clo_nil {cells : List (Str × Addr)} : ∀ {names : List (Str × NameKind)}, (∀ y ∈ names, y.2 ≠ .free) → cloFrom cells names [] = []
  | [], _ => rfl
  | (y, k) :: r, h => by
    have hk : k ≠ .free := h (y, k) (List.mem_cons_self ..)
    have ih := clo_nil (cells := cells) (names := r) fun z m => h z (List.mem_cons_of_mem _ m)
    cases k <;> first | exact ih | exact absurd rfl hk
/-- a lambda is made: its code object is new, or found in the table -/
theorem lam_make1 {T : List NTab} {c P : Addr} {params : Arguments} {body : Expr} {scope : Scope} {pos : Pos} {E : Value → Shared → Prop} {Q : Value → Shared → Prop} (I : Inv X pins σ H s) (TB : TabB X.base X.mg c P) (hcode : X.env.code = .ref c)
    (hm : (P, fun _ _ => X.env.qual ++ "<lambda>") ∈ T) (hu : ∀ p ∈ T, p.1 = P → p.2 = fun _ _ => X.env.qual ++ "<lambda>") (hT : TabsN T H) (hdef : defaultsOf params X.env = ([], [])) (hfree : ∀ y ∈ scope.names, y.2 ≠ .free)
    (h : ∀ (f c' : Addr) (H1 : Hp) (s' : Shared), Inv X pins σ H1 s' → But P H H1 → TabsN T H1 → H f = none → H1 f = some (LnO f (lamF (X.env.qual ++ "<lambda>") params scope c') body) → H1 c' = some (CodeO c' (X.env.qual ++ "<lambda>")) → Q (.ref f) s') :
    wpAny (model X.prog X.w) X.A (eval (.Lambda params body scope pos) X.env) Q E s := by
  have cl0 : cloFrom X.env.cells scope.names [] = [] := clo_nil hfree
  have hfr : ∀ y ∈ scope.names, y.2 = .free → ∃ c, X.env.cells.lookup y.1 = some c := fun y hy e => absurd e (hfree y hy)
  obtain ⟨ps, hP, ht, ha⟩ := (show TabN H P _ from hT _ hm)
  refine PySem.W.kla_eval hdef ?_
  have bP := TB.bm.keeps I.bk
  have hP' : s.heap.get? P = some { cls := .none, data := .fields ps } := I.hok P _ hP
  cases hc : codeAmong pos ps.toList with
  | none =>
    refine PySem.W.kla_makeFunction (mg := X.mg) (c := c) (P := P) (ps := ps) (closure_ok hfr) I.ok.glob (I.mod.glob.keeps I.bk) hcode (TB.code.keeps I.bk) hP' ht hc TB.gP bP fun c' ctv h' tk hx hge hlt hrec htb => ?_
    obtain ⟨c2, oc, vs, t, e2, hoc, hd, hv⟩ := hrec
    cases e2
    have nC : H c' = none := I.hok.fresh hge
    have I1 := inv_table (t' := tk) (more := #[rawInt pos.line, rawInt pos.col, .ref c']) (h' := h') I hP (fun b o hb e => hx b o hb e) htb hge ⟨oc, vs, t, hoc, hd, hv⟩
    have hE : But P H (upd (upd H P (.tbl (ps ++ #[rawInt pos.line, rawInt pos.col, .ref c']))) c' (CodeO c' (X.env.qual ++ "<lambda>"))) := fun b o n2 e =>
      (upd_ne (ne_of_none e nC)).trans ((upd_ne n2).trans e)
    have nCo : ∀ (c0 : Addr) (q : Str), H c0 = some (CodeO c0 q) → c0 ≠ P := fun c0 q e z => by
      rw [z, hP] at e
      exact codeO_ne ps (Option.some.inj e).symm
    have eL : (ps ++ #[rawInt pos.line, rawInt pos.col, .ref c']).toList = ps.toList ++ [rawInt pos.line, rawInt pos.col, .ref c'] := by simp
    have T1 : TabsN T (upd (upd H P (.tbl (ps ++ #[rawInt pos.line, rawInt pos.col, .ref c']))) c' (CodeO c' (X.env.qual ++ "<lambda>"))) := fun p hp => by
      by_cases hb : p.1 = P
      · rw [hu p hp hb, hb]
        refine ⟨_, (upd_ne (ne_of_none hP nC)).trans upd_same, by rw [eL]; exact PySem.TriplesOk_snoc _ _ _ _ ht, fun p' cv hcv => ?_⟩
        rw [eL] at hcv
        rcases among_app _ ht hcv with z | z
        · obtain ⟨c0, e1, e2⟩ := ha p' cv z
          exact ⟨c0, e1, hE _ _ (nCo _ _ e2) e2⟩
        · exact ⟨c', z, upd_same⟩
      · obtain ⟨ps', a1, a2, a3⟩ := hT p hp
        refine ⟨ps', (upd_ne (ne_of_none a1 nC)).trans ((upd_ne hb).trans a1), a2, fun p' cv hcv => ?_⟩
        obtain ⟨c0, e1, e2⟩ := a3 p' cv hcv
        exact ⟨c0, e1, hE _ _ (nCo _ _ e2) e2⟩
    have nF := I1.hok.fresh (Nat.le_refl _)
    have I2 := inv_ln (F := lamF (X.env.qual ++ "<lambda>") params scope c') (body := body) (t' := tk) (pm := (X.mg "__name__").getD .none) (ctv := ctv) I1
    rw [cl0]
    refine h h'.objs.size c' _ _ I2 (fun b o n e => ?_) (T1.ext fun b o e => ?_) (I.hok.fresh (Nat.le_trans hge (Nat.le_of_lt hlt))) upd_same ?_
    · have e1 := hE b o n e
      exact (upd_ne (ne_of_none e1 nF)).trans e1
    · exact (upd_ne (ne_of_none e nF)).trans e
    · exact (upd_ne (Nat.ne_of_lt hlt)).trans upd_same
  | some cv =>
    obtain ⟨c', e, hco⟩ := ha pos cv hc
    subst e
    refine PySem.W.kla_makeFunctionHit (mg := X.mg) (c := c) (P := P) (ps := ps) (closure_ok hfr) I.ok.glob (I.mod.glob.keeps I.bk) hcode (TB.code.keeps I.bk) hP' ht hc bP fun ctv h' tk hx hsz => ?_
    have I1 : Inv X pins σ H { s with heap := h', toks := tk } := I.kept hx
    have nF : H h'.objs.size = none := I1.hok.fresh (Nat.le_refl _)
    have I2 := inv_ln (F := lamF (X.env.qual ++ "<lambda>") params scope c') (body := body) (t' := tk) (pm := (X.mg "__name__").getD .none) (ctv := ctv) I1
    rw [cl0]
    exact h h'.objs.size c' _ _ I2 (fun b o _ e => (upd_ne (ne_of_none e nF)).trans e) (hT.ext fun b o e => (upd_ne (ne_of_none e nF)).trans e) nF upd_same ((upd_ne (ne_of_none hco nF)).trans hco)
end
/-- the tables stand while the pen turns -/
theorem tabs_but {T : List NTab} {p : Addr} {H H' : Hp} {xs : List V} (t : TabsN T H) (hp : H p = some (.lst xs)) (b : But p H H') : TabsN T H' := fun q hq => by
  obtain ⟨ps, a1, a2, a3⟩ := t q hq
  refine ⟨ps, b _ _ (fun z => by rw [z, hp] at a1; cases a1) a1, a2, fun pos cv hc => ?_⟩
  obtain ⟨c0, e1, e2⟩ := a3 pos cv hc
  refine ⟨c0, e1, b _ _ (fun z => ?_) e2⟩
  rw [z, hp] at e2
  unfold CodeO at e2
  cases e2
/-- the reading of a lambda -/
def tLam1 (T : List NTab) (P : Addr) (mk : Addr → NF) (body : Expr) : TE := fun _ H Q => TabsN T H ∧ ∀ (f c' : Addr) (H1 : Hp), But P H H1 → TabsN T H1 → H f = none → H1 f = some (LnO f (mk c') body) → H1 c' = some (CodeO c' (mk c').qual) → Q (.ref f) H1
theorem pe_lam1 {X : Cx} {T : List NTab} {c P : Addr} {params : Arguments} {body : Expr} {scope : Scope} {pos : Pos} (TB : TabB X.base X.mg c P) (hcode : X.env.code = .ref c)
    (hm : (P, fun _ _ => X.env.qual ++ "<lambda>") ∈ T) (hu : ∀ p ∈ T, p.1 = P → p.2 = fun _ _ => X.env.qual ++ "<lambda>") (hdef : defaultsOf params X.env = ([], []) := by rfl) (hfree : ∀ y ∈ scope.names, y.2 ≠ .free := by decide) :
    PE X (.Lambda params body scope pos) (tLam1 T P (fun c' => lamF (X.env.qual ++ "<lambda>") params scope c') body) :=
  ⟨fun pins s σ H Q I h => lam_make1 I TB hcode hm hu h.1 hdef hfree fun f c' H1 s' I1 e t n g k => ⟨.ref f, H1, I1, rfl, h.2 f c' H1 e t n g k⟩⟩
/-- the promise of the lambda F at f -/
structure LOk (P : Program) (w : World) (K : PySem.W.Frag) (mg : Str → Option Value) (base : Heap) (CX : CXT) (k : Nat) (f : Addr) (F : NF) (body : Expr) (ps : List Str) (sp : Sp) : Prop where
  len : ∀ vs H Q E, sp vs H Q E → vs.length = ps.length
  run : ∀ (A : Around) (outer : List Env) (s : Shared) (H : Hp) (us : List Value) (vs : List V) (Q : VK) (E : XK), Room k A → Env0 P w K mg base A outer s H → H f = some (LnO f F body) → H F.c = some (CodeO F.c F.qual) → Vals vs us → sp vs H Q E →
    codeAny (model P w) A (.call (.ref f) ⟨us, []⟩) (CR CX outer P w H s Q E) s
theorem LOk.mono {P : Program} {w : World} {K : PySem.W.Frag} {mg : Str → Option Value} {base : Heap} {CX : CXT} {j k : Nat} {f : Addr} {F : NF} {body : Expr} {ps : List Str} {sp : Sp} (o : LOk P w K mg base CX j f F body ps sp) (h : j ≤ k) : LOk P w K mg base CX k f F body ps sp := ⟨o.len, fun A outer s H us vs Q E hr => o.run A outer s H us vs Q E (hr.mono h)⟩
/-- a lambda by its body -/
theorem lok_of {CX : CXT} {P : Program} {w : World} {K : PySem.W.Frag} {mg : Str → Option Value} {base : Heap} {N ps : List Str} {F : NF} {f : Addr} {k : Nat} {body : Expr} {sp : Sp} (S : NScope N ps [] F.scope) (hcl : F.cl = [])
    (hb : ∀ (pm ctv : Value) (us : List Value), us.length = ps.length → bindArgs (PySem.W.kla_fn F.name F.qual F.params body F.scope F.cl pm (.ref F.c) ctv) ⟨us, []⟩ = pure (ps.zip us)) (len : ∀ vs H Q E, sp vs H Q E → vs.length = ps.length)
    (hbody : ∀ (A : Around) (outer : List Env) (s : Shared) (H : Hp) (vs : List V) (Q : VK) (E : XK), Room k (A.deeper (envF F f s.heap.objs.size)) → sp vs H Q E →
      ∃ t, PE (ncx CX P w K mg base N F f A outer s H E) body t ∧ t (startF N vs []) H Q) :
    LOk P w K mg base CX (k + 1) f F body ps sp := by
  refine ⟨len, fun A outer s H us vs Q E hr e0 hf hc r hsp => ?_⟩
  have hl := len _ _ _ _ hsp
  have lim : s.heap.NoLimit := e0.mod.nolimit.keeps fun b o e => (e0.bs b o e).1
  obtain ⟨pm, ctv, ho⟩ := lnO_at e0.hok hf
  refine PySem.W.kla_callFunE hr.depth ho rfl S.co S.gen rfl (codeO_at e0.hok hc) ?_
  rw [hb pm ctv us (by rw [← r.length]; exact hl)]
  refine wpAny_pure (wpAny_newFunctionEnv S.nocell (fun ⟨n, _⟩ hy => S.par n (List.of_mem_zip hy).1) (fun h₁ hns hsb => ⟨lim.fresh _ hsb, ?_⟩) S.kind)
  show codeAny _ _ (.expr body (envF F f s.heap.objs.size)) _ _
  have kp : ∀ b o, s.heap.get? b = some o → h₁.get? b = some o := fun b o e => hsb.extBut b o (Nat.ne_of_lt (Heap.lt_size e)) (Heap.get?_push_of_some _ e)
  obtain ⟨t, ht, hq⟩ := hbody A outer s H vs Q E (hr.deeper _) hsp
  have C : CellsAt F.cl [] ([] : List (Option V)) s.heap H := ⟨rfl, fun y c e => (by rw [hcl] at e; cases e), fun x y c e => (by rw [hcl] at e; cases e), fun i y e => (by cases i <;> cases e)⟩
  have I : Inv (ncx CX P w K mg base N F f A outer s H E) [] (startF N vs []) H { s with heap := h₁, toks := s.toks + (ps.zip us).length } := inv_startN S hr.hd e0 hl r C hns kp
  refine PySem.W.kla_codeExpr (wpAny_mono (ht.run [] _ (startF N vs []) H _ I hq) (fun u s' hs => ?_) fun e s' hs => hs)
  obtain ⟨v, H', J, rv, q⟩ := hs
  exact ⟨v, H', J.os, J.bare, J.base, J.hok, rv, q⟩
/-- x(..), x a name that holds a lambda -/
def tCallL (i : Nat) (mk : Addr → NF) (body : Expr) (sp : Sp) (E : L2.St → XK) (t : TA) : TE := fun σ H Q => ∃ f c', σ[i]? = some (some (.ref f)) ∧ H f = some (LnO f (mk c') body) ∧
  t σ H fun vs H1 => H1 f = some (LnO f (mk c') body) ∧ H1 (mk c').c = some (CodeO (mk c').c (mk c').qual) ∧ sp vs H1 Q (E σ)
section
variable {X : Cx} {CX : CXT} {mk : Addr → NF} {body : Expr} {ps : List Str} {i j k : Nat} {x : Str} {sp : Sp} {E : L2.St → XK} {t : TA} {e : Expr} {es : List Expr} {p pos : Pos}
theorem lnAt_of {pins : List (Addr × Obj)} {σ : L2.St} {H : Hp} {s : Shared} {f : Addr} {F : NF} (I : Inv X pins σ H s) (e : H f = some (LnO f F body)) : PySem.W.FnAt f s.heap := by
  obtain ⟨pm, ctv, ho⟩ := lnO_at I.hok e
  exact ⟨_, _, _, _, ho⟩
theorem pe_callL (Fn : ∀ f c', LOk X.prog X.w X.K X.mg X.base CX k f (mk c') body ps sp) (hr : Room j X.A) (hk : k ≤ j) (hx : ∀ σ, PassesAt CX X σ (E σ)) (hN : X.N[i]? = some x) (hv : Vis X.env.scope x) (ha : PA X (e :: es) t)
    (hd : (x == ("__debug__" : Str)) = false := by decide) (hcd : (x == ("__classdict__" : Str)) = false := by decide)
    (he : starEach (e :: es) X.env = (false, eval e X.env) :: starEach es X.env := by rfl) (hpl : (backTo pos (starEach es X.env)).any (·.1) = false := by rfl) :
    PE X (.Call (.Name x p) (e :: es) [] pos) (tCallL i mk body sp E t) := by
  refine ⟨fun pins s σ H Q I h => ?_⟩
  obtain ⟨f, c', hs, hf, ht⟩ := h
  refine wpAny_Call_Name_kw (thn ((pe_var (pos := p) hN hv hd hcd).run pins s σ H (fun v H1 => v = .ref f ∧ H1 = H) I ⟨.ref f, hs, rfl, rfl⟩) fun u s1 ⟨v, H1, I1, r1, q1⟩ => ?_)
  obtain ⟨ev, eH⟩ := q1
  subst ev
  rw [eH] at I1
  obtain rfl : u = Value.ref f := r1
  refine PySem.W.callWith_F (first := []) (lnAt_of I1 hf) (thn (ha.run pos pins s1 σ H _ I1 ht) fun us s2 ⟨vs, H2, I2, r, h1, h2, q⟩ => ⟨lnAt_of I2 h1, ?_⟩) he hpl
  show wpAny _ _ (call (.ref f) us) _ _ _
  refine wpAny_call (codeAny_mono ((Fn f c').run X.A X.stack s2 H2 us vs Q (E σ) (hr.mono hk) I2.env0 h1 h2 r q) fun r s' hq => ?_)
  match r, hq with
  | .error e, hq => exact hx σ pins H2 s2 e s' I2 hq
  | .ok (.ret u), hq => exact I2.after hq
  | .ok .next, hq => exact hq.elim
  | .ok .brk, hq => exact hq.elim
  | .ok .cont, hq => exact hq.elim
end
end Fld

/-! what is read is just what these octets write -/
namespace Fld
open PySem PySem.Spec PyProof.Rows L2
end Fld
/-! what is read: instructions, answers, blocks; nothing that begins what is written is one -/
namespace Fld
open PySem PySem.Spec PyProof.Rows L2
end Fld
/-! octets with a part changed -/
namespace Fld
open PySem PySem.Spec PyProof.Rows L2
def Octs (os : List Int) : Prop := ∀ o ∈ os, 0 ≤ o ∧ o < 256
def sp_law_bent_octets : Sp := fun vs H Q _ => ∃ (p c : Addr) (n : Nat) (a : Addr) (os : List Int), vs = [.ref p, .ref a] ∧ a ≠ p ∧ Pen H p c n ∧ H a = some (.lst (os.map V.int)) ∧ os.length ≤ 100000 ∧ Octs os ∧ n ≤ 700000 ∧
  ∀ (b : Addr) (bs : List Int) H', H b = none → H' b = some (.lst (bs.map V.int)) → bs.length ≤ os.length + 10 → Octs bs → Drew p c H H' (n + 20) → Q (.ref b) H'
theorem octs_take {os : List Int} (h : Octs os) (k : Nat) : Octs (os.take k) := fun o ho => h o (List.mem_of_mem_take ho)
theorem octs_drop {os : List Int} (h : Octs os) (k : Nat) : Octs (os.drop k) := fun o ho => h o (List.mem_of_mem_drop ho)
theorem octs_one {o : Int} (h : 0 ≤ o ∧ o < 256) : Octs [o] := fun x hx => by rw [List.mem_singleton.mp hx]; exact h
theorem octs_app {a b : List Int} (h1 : Octs a) (h2 : Octs b) : Octs (a ++ b) := app_oct h1 h2
theorem octs_set {os : List Int} {k : Nat} {o : Int} (h : Octs os) (ho : 0 ≤ o ∧ o < 256) : Octs (os.set k o) := fun x hx => by
  rcases List.mem_or_eq_of_mem_set hx with y | y
  · exact h x y
  · rw [y]; exact ho
theorem octs_erase {os : List Int} {k : Nat} (h : Octs os) : Octs (os.eraseIdx k) := fun x hx => h x (List.mem_of_mem_eraseIdx hx)
theorem map_erase {α β : Type} (f : α → β) : ∀ (xs : List α) (k : Nat), (xs.map f).eraseIdx k = (xs.eraseIdx k).map f
  | [], _ => rfl
  | _ :: _, 0 => rfl
  | x :: xs, k + 1 => by
    show f x :: (xs.map f).eraseIdx k = f x :: (xs.eraseIdx k).map f
    rw [map_erase f xs k]
end Fld
/-! sorted of (int, int, line): lines are compared up to their first difference -/
namespace Ob
open PySem PySem.SeqAt
open PySem.AutoSeq1 (wpAny_loadPart')
open PySem.MeetsSeq PySem.MeetsSeq2 PySem.MeetsSeq3
end Ob

namespace Fld
open PySem PySem.Spec PyProof.Rows L2
/-! ### the values compared -/
abbrev Tri := Int × Int × Ln
/-- a line as the heap has it -/
def LnAt (h : Heap) (v : Value) (l : Ln) : Prop := ∃ a us, v = .ref a ∧ h.IsTuple a us.toArray ∧ Vals l.vs us
def TriAt (h : Heap) (v : Value) (t : Tri) : Prop := ∃ a o p q n ln, v = .ref a ∧ h.get? a = some o ∧ o.cls = .type "tuple" ∧ o.data = .seq #[.int t.1 p, .int t.2.1 q, ln] n ∧ LnAt h ln t.2.2
theorem LnAt.keeps {h h' : Heap} {v : Value} {l : Ln} (p : LnAt h v l) (k : ∀ b o, h.get? b = some o → o.cls = .type "tuple" → h'.get? b = some o) : LnAt h' v l := by
  obtain ⟨a, us, e, ⟨o, ho, hc, n, hd⟩, r⟩ := p
  exact ⟨a, us, e, ⟨o, k _ _ ho hc, hc, n, hd⟩, r⟩
theorem TriAt.keeps {h h' : Heap} {v : Value} {t : Tri} (p : TriAt h v t) (k : ∀ b o, h.get? b = some o → o.cls = .type "tuple" → h'.get? b = some o) : TriAt h' v t := by
  obtain ⟨a, o, i, j, n, ln, e, ho, hc, hd, hl⟩ := p
  exact ⟨a, o, i, j, n, ln, e, k _ _ ho hc, hc, hd, hl.keeps k⟩
section
variable {prog : Program} {w : World} {A : Around} {E : Value → Shared → Prop} {s : Shared}
end

/-! ### the rule -/
def TriV (K : PySem.W.Frag) (H : Hp) (x : V) (t : Tri) : Prop := ∃ a ln, x = .ref a ∧ SqT K H a [.int t.1, .int t.2.1, ln] ∧ LnV K H ln t.2.2
abbrev TrisV (K : PySem.W.Frag) (H : Hp) (xs : List V) (ts : List Tri) : Prop := Paired (TriV K H) xs ts
theorem TriV.ts {K : PySem.W.Frag} {H H' : Hp} {x : V} {t : Tri} (h : TriV K H x t) (z : TS H H') : TriV K H' x t := let ⟨a, ln, e, s, l⟩ := h; ⟨a, ln, e, z.tup s, l.ts z⟩
theorem TrisV.ts {K : PySem.W.Frag} {H H' : Hp} {xs : List V} {ts : List Tri} (h : TrisV K H xs ts) (z : TS H H') : TrisV K H' xs ts := pmap (fun _ _ q => q.ts z) h
section
variable {X : Cx} {pins : List (Addr × Obj)} {σ : L2.St} {H : Hp} {s : Shared}
end
end Fld
/-! min of (int, (int, int)) -/
namespace Fld
open PySem PySem.Spec PyProof.Rows L2
abbrev P3 := Int × Int × Int
def le3 (p q : P3) : Prop := p.1 < q.1 ∨ (p.1 = q.1 ∧ (p.2.1 < q.2.1 ∨ (p.2.1 = q.2.1 ∧ p.2.2 ≤ q.2.2)))
def PrI (K : PySem.W.Frag) (H : Hp) (x : V) (t : P3) : Prop := ∃ a b, x = .ref a ∧ SqT K H a [.int t.1, .ref b] ∧ SqT K H b [.int t.2.1, .int t.2.2]
theorem PrI.ts {K : PySem.W.Frag} {H H' : Hp} {x : V} {t : P3} (h : PrI K H x t) (z : TS H H') : PrI K H' x t := let ⟨a, b, e, s, l⟩ := h; ⟨a, b, e, z.tup s, z.tup l⟩
theorem PrI.dp {K : PySem.W.Frag} {H : Hp} {x : V} {t : P3} (h : PrI K H x t) : Dp K H x (PySem.W.Datum.toD t) := by
  obtain ⟨a, b, rfl, s1, s2⟩ := h
  exact .tup s1 (.cons (.int _) (.cons (.tup s2 (.cons (.int _) (.cons (.int _) .nil))) .nil))
end Fld
namespace Fld
open PySem PySem.Spec PyProof.Rows L2
end Fld
/-! f(k = v); t * 0, t * 1; data laid one by one; events and logs -/
namespace Fld
open PySem PySem.Spec PyProof.Rows L2
section
variable {X : Cx} {CX : CXT} {k : Nat} {f : Addr} {fd : FuncData} {ps ks : List Str} {sp : Sp} {E : XK} {x : Str} {p pos : Pos} {tk : TA} {kws : List Keyword} {g : List Value → List Value → List Value} {gV : List V → List V → List V}
end
/-! ### a comprehension with a test -/
section
variable {J : It} {n : Nat} {G : Hp → Prop} {Y : Nat → Hp → V → Hp → Prop} {g : TG} {tt : TT} {te : TE} {vs : List Nat} {σ : L2.St} {H1 : Hp} {D : Addr} {Qd : Hp → Prop}
theorem lc_genF (w : Walk J n G Y) (I : Nat → List V → Hp → Prop) (hz : n ≤ 10000000) (h0 : I 0 [] (upd H1 D (.lst []))) (hG : ∀ i ys H, I i ys H → G H)
    (hs : ∀ i ys x H' H'' (Q' : VK) (Z : Hp → Prop), i < n → ys.length ≤ i → H' D = some (.lst ys) → I i ys H' → Y i H' x H'' → (∀ y H4, H4 D = some (.lst ys) → I (i + 1) (ys ++ [y]) (upd H4 D (.lst (ys ++ [y]))) → Q' y H4) → (∀ H4, H4 D = some (.lst ys) → I (i + 1) ys H4 → Z H4) →
      g x (wipe σ vs) H'' fun σ2 H2 => wipe σ2 vs = wipe σ vs ∧ tt σ2 H2 fun b H3 => if b = true then te σ2 H3 Q' else Z H3)
    (hd : ∀ ys H', ys.length ≤ n → H' D = some (.lst ys) → I n ys H' → Qd H') :
    ∃ W : Nat → Nat → Hp → Prop, (∃ m, W 0 m (upd H1 D (.lst []))) ∧ ∀ i m H, W i m H →
      (J.stop i H ∧ Qd H) ∨ (J.go i H ∧ ∃ Nx : Hp → Prop, (∀ H', Nx H' → ∃ m', m' < m ∧ W (i + 1) m' H') ∧ ∀ x H', J.yld i H x H' → g x (wipe σ vs) H' fun σ2 H2 => wipe σ2 vs = wipe σ vs ∧ tt σ2 H2 fun b H3 =>
        if b = true then te σ2 H3 fun y H4 => ∃ acc, H4 D = some (.lst acc) ∧ acc.length < sizeLine ∧ Nx (upd H4 D (.lst (acc ++ [y]))) else Nx H3) := by
  refine lc_it w (fun i H => ∃ ys : List V, ys.length ≤ i ∧ H D = some (.lst ys) ∧ I i ys H) ⟨[], Nat.le_refl _, upd_same, h0⟩ (fun i H _ ⟨ys, _, _, h⟩ => hG i ys H h) ?_ ?_
  · rintro i x H H' hi ⟨ys, hl, hD, h⟩ y
    refine hs i ys x H H' _ _ hi hl hD h y (fun z H4 e4 h4 => ?_) (fun H4 e4 h4 => ⟨ys, by omega, e4, h4⟩)
    refine ⟨ys, e4, ?_, ys ++ [z], by rw [List.length_append]; show ys.length + 1 ≤ i + 1; omega, upd_same, h4⟩
    rw [sizeLine_eq]
    omega
  · rintro H ⟨ys, hl, hD, h⟩
    exact hd ys H hl hD h
end
/-! ### data laid one by one: all that was laid stands on a pile -/
section
variable {K : PySem.W.Frag} {S : List Addr} {H : Hp} {xs ys : List V} {ds es : List PyData} {Q : VK}
theorem DvAll.hd {v : V} {d : PyData} (h : DvAll K H (v :: xs) (d :: ds)) : Dv K H v d := by cases h; assumption
theorem DvAll.tl {v : V} {d : PyData} (h : DvAll K H (v :: xs) (d :: ds)) : DvAll K H xs ds := by cases h; assumption
end
/-! ### events -/
inductive Evt where
  | tab (i : Ins) | blk (s : Nat) (b : Blk) | ans (a : Ans) | rawT (ns : List Int) | rawB (s : Nat) (ns : List Int) | rawA (ns : List Int)
def EvtV (K : PySem.W.Frag) (H : Hp) (v : V) : Evt → Prop
  | .tab i => ∃ a u, v = .ref a ∧ SqT K H a [.str "table", u] ∧ InsV K H u i
  | .blk s b => ∃ a u, v = .ref a ∧ SqT K H a [.str "block", .int (s : Nat), u] ∧ BlkV K H u b
  | .ans x => ∃ a u, v = .ref a ∧ SqT K H a [.str "answer", u] ∧ AnsV K H u x
  | .rawT ns => ∃ a L, v = .ref a ∧ SqT K H a [.str "table", .ref L] ∧ SqL K H L (ns.map V.int)
  | .rawB s ns => ∃ a L, v = .ref a ∧ SqT K H a [.str "block", .int (s : Nat), .ref L] ∧ SqL K H L (ns.map V.int)
  | .rawA ns => ∃ a L, v = .ref a ∧ SqT K H a [.str "answer", .ref L] ∧ SqL K H L (ns.map V.int)
def rawOk (ns : List Int) : Prop := ns.length ≤ 8 ∧ ∀ o ∈ ns, 0 ≤ o ∧ o < 256
def Evt.Ok : Evt → Prop
  | .tab i => i.Ok
  | .blk s b => s ≤ 20 ∧ b.Ok ∧ b.ls.length ≤ 3
  | .ans x => x.Ok
  | .rawT ns => rawOk ns
  | .rawB s ns => s ≤ 20 ∧ rawOk ns
  | .rawA ns => rawOk ns
theorem InsV.same {K : PySem.W.Frag} {H H' : Hp} {v : V} {i : Ins} (h : InsV K H v i) (s : Same H H') : InsV K H' v i := h.ts (.of s)
theorem AnsV.ts {K : PySem.W.Frag} {H H' : Hp} {v : V} {i : Ans} (h : AnsV K H v i) (t : TS H H') : AnsV K H' v i := let ⟨a, e, g⟩ := h; ⟨a, e, t.tup g⟩
theorem EvtV.keep {K : PySem.W.Frag} {H H' : Hp} {v : V} {e : Evt} (s : Same H H') (h : EvtV K H v e) : EvtV K H' v e := by
  cases e with
  | tab i => obtain ⟨a, u, r, g, k⟩ := h; exact ⟨a, u, r, s.tup g, k.ts (.of s)⟩
  | blk n b => obtain ⟨a, u, r, g, k⟩ := h; exact ⟨a, u, r, s.tup g, k.keep s⟩
  | ans i => obtain ⟨a, u, r, g, k⟩ := h; exact ⟨a, u, r, s.tup g, k.ts (.of s)⟩
  | rawT ns => obtain ⟨a, u, r, g, k⟩ := h; exact ⟨a, u, r, s.tup g, s.seq k⟩
  | rawB n ns => obtain ⟨a, u, r, g, k⟩ := h; exact ⟨a, u, r, s.tup g, s.seq k⟩
  | rawA ns => obtain ⟨a, u, r, g, k⟩ := h; exact ⟨a, u, r, s.tup g, s.seq k⟩
abbrev EvtsV (K : PySem.W.Frag) (H : Hp) (xs : List V) (es : List Evt) : Prop := Paired (EvtV K H) xs es
theorem EvtsV.keep {K : PySem.W.Frag} {H H' : Hp} {xs : List V} {es : List Evt} (s : Same H H') (h : EvtsV K H xs es) : EvtsV K H' xs es := pmap (fun _ _ z => EvtV.keep s z) h
/-- what an event is with its octets -/
def Evt.oct : Evt → List Int
  | .tab i => i.oct
  | .blk _ b => b.oct
  | .ans x => x.oct
  | .rawT ns => ns
  | .rawB _ ns => ns
  | .rawA ns => ns
def octD (ns : List Int) : PyData := .list (ns.map PyData.int)
def Evt.dat : Evt → PyData
  | .tab i => .tuple [.str "table", octD i.oct]
  | .blk s b => .tuple [.str "block", .int (s : Nat), octD b.oct]
  | .ans x => .tuple [.str "answer", octD x.oct]
  | .rawT ns => .tuple [.str "table", octD ns]
  | .rawB s ns => .tuple [.str "block", .int (s : Nat), octD ns]
  | .rawA ns => .tuple [.str "answer", octD ns]
/-- the items of the tuple of an event with its octets at L -/
def Evt.vs (L : Addr) : Evt → List V
  | .tab _ => [.str "table", .ref L]
  | .blk s _ => [.str "block", .int (s : Nat), .ref L]
  | .ans _ => [.str "answer", .ref L]
  | .rawT _ => [.str "table", .ref L]
  | .rawB s _ => [.str "block", .int (s : Nat), .ref L]
  | .rawA _ => [.str "answer", .ref L]
/-- an event of a log -/
def LEv (K : PySem.W.Frag) (H : Hp) (v : V) (e : Evt) : Prop := ∃ a L, v = .ref a ∧ SqT K H a (e.vs L) ∧ SqL K H L (e.oct.map V.int)
theorem LEv.keep {K : PySem.W.Frag} {H H' : Hp} {v : V} {e : Evt} (s : Same H H') (h : LEv K H v e) : LEv K H' v e := let ⟨a, L, r, g, k⟩ := h; ⟨a, L, r, s.tup g, s.seq k⟩
theorem dv_ints {K : PySem.W.Frag} {H : Hp} : ∀ ns : List Int, DvAll K H (ns.map V.int) (ns.map PyData.int)
  | [] => .nil
  | n :: r => .cons (.int n) (dv_ints r)
end Fld
/-! what the draws of logs promise -/
namespace Fld
open PySem PySem.Spec PyProof.Rows L2
section
variable {K : PySem.W.Frag} {p c l : Addr} {n : Nat} {H : Hp} {Q : VK} {xs : List V}
end
theorem Drew.then {p c : Addr} {H H1 H2 : Hp} {n m : Nat} (a : But p H H1) (b : Drew p c H1 H2 m) : Drew p c H H2 m := ⟨b.pen, a.trans b.but⟩
end Fld
namespace Fld
open PySem PySem.Spec PyProof.Rows L2
def lnReq : Ln → Nat
  | .ent1 n => n + 1
  | .ent2 n _ => n + 1
  | _ => 0
end Fld
/-! The shortest block: lines for a field, the best of them. -/
namespace Fld
open PySem PySem.Spec PyProof.Rows L2
section
variable {J : It} {n : Nat} {G : Hp → Prop} {Y : Nat → Hp → V → Hp → Prop} {g : TG} {tt : TT} {te : TE} {vs : List Nat} {σ : L2.St} {H1 : Hp} {D : Addr} {Qd : Hp → Prop}
/-- the same with a test -/
theorem lc_relF {α : Type} {R : V → α → Hp → Prop} (c : α → Bool) (mono : ∀ v a H H', TS H H' → R v a H → R v a H') (as : List α) (w : Walk J n G Y) (hn : n = as.length) (hz : as.length ≤ 10000000) (hD : H1 D = none) (hG : ∀ H, Same H1 H → G H)
    (hs : ∀ i x a H' H'' (Q' : VK) (Z : Hp → Prop), as[i]? = some a → Same H1 H' → H' D ≠ none → Y i H' x H'' → (c a = true → ∀ y H4, Same H' H4 → R y a H4 → Q' y H4) → (c a = false → ∀ H4, Same H' H4 → Z H4) →
      g x (wipe σ vs) H'' fun σ2 H2 => wipe σ2 vs = wipe σ vs ∧ tt σ2 H2 fun b H3 => if b = true then te σ2 H3 Q' else Z H3)
    (hd : ∀ ys H', Same H1 H' → H' D = some (.lst ys) → Paired (fun v a => R v a H') ys (as.filter c) → Qd H') :
    ∃ W : Nat → Nat → Hp → Prop, (∃ m, W 0 m (upd H1 D (.lst []))) ∧ ∀ i m H, W i m H →
      (J.stop i H ∧ Qd H) ∨ (J.go i H ∧ ∃ Nx : Hp → Prop, (∀ H', Nx H' → ∃ m', m' < m ∧ W (i + 1) m' H') ∧ ∀ x H', J.yld i H x H' → g x (wipe σ vs) H' fun σ2 H2 => wipe σ2 vs = wipe σ vs ∧ tt σ2 H2 fun b H3 =>
        if b = true then te σ2 H3 fun y H4 => ∃ acc, H4 D = some (.lst acc) ∧ acc.length < sizeLine ∧ Nx (upd H4 D (.lst (acc ++ [y]))) else Nx H3) := by
  subst hn
  have up : ∀ H o, Same H1 H → Same H1 (upd H D o) := fun H o s b u e => by rw [upd_ne (ne_of_none e hD)]; exact s b u e
  refine lc_genF w (fun i ys H => Same H1 H ∧ H D ≠ none ∧ Paired (fun v a => R v a H) ys ((as.take i).filter c)) hz ⟨up _ _ (Same.refl _), by rw [upd_same]; exact (fun z => nomatch z), .nil⟩ (fun i ys H h => hG H h.1) ?_ ?_
  · rintro i ys x H H' Q' Z hi hl hDl ⟨s, n0, p⟩ y q z
    have et : as.take (i + 1) = as.take i ++ [as[i]] := by rw [List.take_add_one, List.getElem?_eq_getElem hi]; rfl
    refine hs i x as[i] H H' Q' Z (List.getElem?_eq_getElem hi) s n0 y (fun hc v H4 s4 r4 => ?_) (fun hc H4 s4 => ?_)
    · have g4 := s4 D _ hDl
      have t4 : TS H4 (upd H4 D (.lst (ys ++ [v]))) := TS.at g4 nt_lst
      refine q v H4 g4 ⟨up _ _ (s.trans s4), by rw [upd_same]; exact (fun z => nomatch z), ?_⟩
      rw [et, List.filter_append, List.filter_cons_of_pos hc, List.filter_nil]
      exact p_app (pmap (fun _ _ z => mono _ _ _ _ t4 (mono _ _ _ _ (.of s4) z)) p) (.cons (mono _ _ _ _ t4 r4) .nil)
    · refine z H4 (s4 D _ hDl) ⟨s.trans s4, by rw [s4 D _ hDl]; exact (fun z => nomatch z), ?_⟩
      rw [et, List.filter_append, List.filter_cons_of_neg (by rw [hc]; exact (fun z => nomatch z)), List.filter_nil, List.append_nil]
      exact pmap (fun _ _ z => mono _ _ _ _ (.of s4) z) p
  · rintro ys H hl hDl ⟨s, _, p⟩
    rw [List.take_length] at p
    exact hd ys H s hDl p
end
/-! ### what a line can refer to -/
structure Rf where
  req : Nat
  ent : Bool
  n : Nat
  o : Fd
def Rf.word (r : Rf) : Str := if r.ent = true then "entry" else "fixed"
def Rf.ln (f : Fd) (r : Rf) : Option Ln :=
  if r.o = f then some (if r.ent = true then .ent1 r.n else .fix1 r.n) else if r.o.1 = f.1 then some (if r.ent = true then .ent2 r.n f.2 else .fix2 r.n f.2) else none
def fixR (F : List Fd) : List Rf := F.zipIdx.map fun p => ⟨0, false, p.2, p.1⟩
def entR (es : Ent) : List Rf := es.map fun e => ⟨e.1 + 1, true, e.1, e.2⟩
def refs (F : List Fd) (es : Ent) : List Rf := fixR F ++ entR es
def linesL (F : List Fd) (es : Ent) (f : Fd) : List Ln := .out f.1 f.2 :: (refs F es).filterMap (Rf.ln f)
def tri (base : Nat) (l : Ln) : Tri := ((lnReq l : Nat), ((l.oct base).length : Nat), l)
def RfV (K : PySem.W.Frag) (H : Hp) (v : V) (r : Rf) : Prop := ∃ a fv, v = .ref a ∧ SqT K H a [.int (r.req : Nat), .str r.word, .int (r.n : Nat), fv] ∧ FdV K H fv r.o
theorem RfV.ts {K : PySem.W.Frag} {H H' : Hp} {v : V} {r : Rf} (h : RfV K H v r) (t : TS H H') : RfV K H' v r := let ⟨a, fv, e, s, f⟩ := h; ⟨a, fv, e, t.tup s, f.ts t⟩
structure ShOk (F : List Fd) (es : Ent) : Prop where
  fl : F.length ≤ 40
  ff : ∀ f ∈ F, FdOk f
  el : es.length < 64
  key : ∀ e ∈ es, e.1 ≤ 9998
  ef : ∀ e ∈ es, FdOk e.2
  nd : (es.map (·.1)).Nodup
structure RfOk (r : Rf) : Prop where
  n9 : r.n ≤ 9999
  ok : FdOk r.o
theorem refs_ok {F : List Fd} {es : Ent} (h : ShOk F es) : ∀ r ∈ refs F es, RfOk r := by
  intro r m
  rcases List.mem_append.mp m with m | m
  · obtain ⟨p, hp, rfl⟩ := List.mem_map.mp m
    have h1 := List.mem_zipIdx' hp
    have := h.fl
    exact ⟨by show p.2 ≤ 9999; have := h1.1; omega, h.ff _ (by rw [h1.2]; exact List.getElem_mem _)⟩
  · obtain ⟨e, he, rfl⟩ := List.mem_map.mp m
    exact ⟨by show e.1 ≤ 9999; have := h.key e he; omega, h.ef e he⟩
/-- each line says the field -/
theorem line_said {F : List Fd} {es : Ent} {f : Fd} (nd : (es.map (·.1)).Nodup) : ∀ l ∈ linesL F es f, said1 F es l = some f := by
  intro l m
  rcases List.mem_cons.mp m with rfl | m
  · rfl
  obtain ⟨r, hr, hl⟩ := List.mem_filterMap.mp m
  have hw : (r.ent = false ∧ F[r.n]? = some r.o) ∨ (r.ent = true ∧ lookE es r.n = some r.o) := by
    rcases List.mem_append.mp hr with m | m
    · obtain ⟨p, hp, rfl⟩ := List.mem_map.mp m
      have h1 := List.mem_zipIdx' hp
      exact .inl ⟨rfl, by show F[p.2]? = some p.1; rw [List.getElem?_eq_getElem h1.1]; exact congrArg some h1.2.symm⟩
    · obtain ⟨e, he, rfl⟩ := List.mem_map.mp m
      exact .inr ⟨rfl, (look_some_iff nd).mpr he⟩
  obtain ⟨rq, en, n, o⟩ := r
  unfold Rf.ln at hl
  dsimp only at hl hw
  by_cases e1 : o = f
  · rw [if_pos e1] at hl
    subst e1
    rcases hw with ⟨rfl, hw⟩ | ⟨rfl, hw⟩
    · cases hl; exact hw
    · cases hl; exact hw
  · rw [if_neg e1] at hl
    by_cases e2 : o.1 = f.1
    · rw [if_pos e2] at hl
      rcases hw with ⟨rfl, hw⟩ | ⟨rfl, hw⟩
      · cases hl
        show (F[n]?).map (fun g => (g.1, f.2)) = some f
        rw [hw]
        show some (o.1, f.2) = some f
        rw [e2]
      · cases hl
        show (lookE es n).map (fun g => (g.1, f.2)) = some f
        rw [hw]
        show some (o.1, f.2) = some f
        rw [e2]
    · rw [if_neg e2] at hl; cases hl
theorem line_ok {F : List Fd} {es : Ent} {f : Fd} (h : ShOk F es) (hf : FdOk f) {R : Nat} : ∀ l ∈ linesL F es f, lnReq l ≤ R → l.Ok R := by
  intro l m hl
  rcases List.mem_cons.mp m with rfl | m
  · exact ⟨hf.n, hf.v⟩
  obtain ⟨r, hr, e⟩ := List.mem_filterMap.mp m
  have ok := refs_ok h r hr
  obtain ⟨rq, en, n, o⟩ := r
  have n9 : n ≤ 9999 := ok.n9
  unfold Rf.ln at e
  dsimp only at e
  by_cases e1 : o = f
  · rw [if_pos e1] at e
    cases en
    · cases e; exact n9
    · cases e
      have : n + 1 ≤ R := hl
      show n < R
      omega
  · rw [if_neg e1] at e
    by_cases e2 : o.1 = f.1
    · rw [if_pos e2] at e
      cases en
      · cases e; exact ⟨n9, hf.v⟩
      · cases e
        have : n + 1 ≤ R := hl
        exact ⟨by show n < R; omega, hf.v⟩
    · rw [if_neg e2] at e; cases e
/-! ### the best -/
def keepS (ks : List Tri) (c : Tri) : List Tri := match ks.getLast? with
  | none => ks ++ [c]
  | some k => if c.2.1 < k.2.1 then ks ++ [c] else ks
structure Best (cs ks : List Tri) : Prop where
  sub : ∀ k ∈ ks, k ∈ cs
  cov : ∀ c ∈ cs, ∃ k ∈ ks, k.1 ≤ c.1 ∧ k.2.1 ≤ c.2.1
  ord : ks.Pairwise fun x y => x.1 ≤ y.1 ∧ y.2.1 < x.2.1
theorem pw_last {ks : List Tri} {k : Tri} (h : ks.Pairwise fun x y => x.1 ≤ y.1 ∧ y.2.1 < x.2.1) (e : ks.getLast? = some k) : ∀ x ∈ ks, x.1 ≤ k.1 ∧ k.2.1 ≤ x.2.1 := by
  obtain ⟨ys, rfl⟩ := List.getLast?_eq_some_iff.mp e
  intro x m
  rcases List.mem_append.mp m with m | m
  · have := (List.pairwise_append.mp h).2.2 x m k (List.mem_singleton.mpr rfl)
    omega
  · rw [List.mem_singleton.mp m]; omega
theorem Best.step {cs ks : List Tri} {c : Tri} (h : Best cs ks) (hc : ∀ x ∈ cs, x.1 ≤ c.1) : Best (cs ++ [c]) (keepS ks c) := by
  unfold keepS
  have add : (∀ k ∈ ks, k.1 ≤ c.1 ∧ c.2.1 < k.2.1) → Best (cs ++ [c]) (ks ++ [c]) := fun hk => by
    refine ⟨fun k m => ?_, fun x m => ?_, ?_⟩
    · rcases List.mem_append.mp m with m | m
      · exact List.mem_append_left _ (h.sub k m)
      · exact List.mem_append_right _ m
    · rcases List.mem_append.mp m with m | m
      · obtain ⟨k, hk1, hk2⟩ := h.cov x m
        exact ⟨k, List.mem_append_left _ hk1, hk2⟩
      · exact ⟨c, List.mem_append_right _ (List.mem_singleton.mpr rfl), by rw [List.mem_singleton.mp m]; omega⟩
    · refine List.pairwise_append.mpr ⟨h.ord, List.pairwise_singleton _ _, fun x hx y hy => ?_⟩
      rw [List.mem_singleton.mp hy]
      exact hk x hx
  cases e : ks.getLast? with
  | none =>
    have : ks = [] := List.getLast?_eq_none_iff.mp e
    exact add (by rw [this]; intro k m; cases m)
  | some k =>
    have hl := pw_last h.ord e
    have hm : k ∈ ks := List.mem_of_getLast? e
    show Best (cs ++ [c]) (if c.2.1 < k.2.1 then ks ++ [c] else ks)
    by_cases q : c.2.1 < k.2.1
    · rw [if_pos q]
      refine add fun x hx => ⟨hc x (h.sub x hx), ?_⟩
      have := (hl x hx).2
      omega
    · rw [if_neg q]
      refine ⟨fun x m => List.mem_append_left _ (h.sub x m), fun x m => ?_, h.ord⟩
      rcases List.mem_append.mp m with m | m
      · exact h.cov x m
      · rw [List.mem_singleton.mp m]
        exact ⟨k, hm, hc k (h.sub k hm), by omega⟩
/-- the least for a required number -/
structure Least (cs : List Tri) (R : Int) (k : Tri) : Prop where
  mem : k ∈ cs
  le : k.1 ≤ R
  least : ∀ c ∈ cs, c.1 ≤ R → k.2.1 ≤ c.2.1
theorem Best.least {cs ks : List Tri} (h : Best cs ks) {R : Int} {k : Tri} (e : (ks.filter fun c => decide (c.1 ≤ R)).getLast? = some k) : Least cs R k := by
  have hp : (ks.filter fun c => decide (c.1 ≤ R)).Pairwise fun x y => x.1 ≤ y.1 ∧ y.2.1 < x.2.1 := h.ord.filter _
  have hl := pw_last hp e
  obtain ⟨m1, m2⟩ := List.mem_filter.mp (List.mem_of_getLast? e)
  refine ⟨h.sub k m1, of_decide_eq_true m2, fun c hc hr => ?_⟩
  obtain ⟨k', hk, h1, h2⟩ := h.cov c hc
  have := (hl k' (List.mem_filter.mpr ⟨hk, decide_eq_true (by omega)⟩)).2
  omega
end Fld
namespace Fld
open PySem PySem.Spec PyProof.Rows L2
abbrev trisOf (F : List Fd) (es : Ent) (f : Fd) (base : Nat) : List Tri := (linesL F es f).map (tri base)
end Fld
namespace Fld
open PySem PySem.Spec PyProof.Rows L2
end Fld
namespace Fld
open PySem PySem.Spec PyProof.Rows L2
section
variable {J : It} {n : Nat} {G : Hp → Prop} {Y : Nat → Hp → V → Hp → Prop} {g : TG} {te : TE} {vs : List Nat} {σ : L2.St} {H1 : Hp} {D : Addr} {Qd : Hp → Prop}
/-- all but D stands -/
def Bt (D : Addr) (H H' : Hp) : Prop := ∀ c o, c ≠ D → H c = some o → H' c = some o
theorem Bt.of {H H' : Hp} (s : Same H H') : Bt D H H' := fun c o _ e => s c o e
end
/-! ### the fewest -/
theorem least_ex {R : Int} : ∀ {cs : List Tri}, (∃ c ∈ cs, c.1 ≤ R) → ∃ k, Least cs R k
  | [], h => by obtain ⟨c, m, _⟩ := h; cases m
  | c :: cs, h => by
    by_cases hc : ∃ x ∈ cs, x.1 ≤ R
    · obtain ⟨k, hk⟩ := least_ex hc
      by_cases h2 : c.1 ≤ R ∧ c.2.1 < k.2.1
      · refine ⟨c, List.mem_cons_self .., h2.1, fun x m hx => ?_⟩
        rcases List.mem_cons.mp m with rfl | m
        · omega
        · have := hk.least x m hx; omega
      · refine ⟨k, List.mem_cons_of_mem _ hk.mem, hk.le, fun x m hx => ?_⟩
        rcases List.mem_cons.mp m with rfl | m
        · omega
        · exact hk.least x m hx
    · obtain ⟨x, m, hx⟩ := h
      rcases List.mem_cons.mp m with rfl | m
      · refine ⟨x, List.mem_cons_self .., hx, fun y m hy => ?_⟩
        rcases List.mem_cons.mp m with rfl | m
        · omega
        · exact absurd ⟨y, m, hy⟩ hc
      · exact absurd ⟨x, m, hx⟩ hc
theorem least_uniq {cs : List Tri} {R : Int} {k k' : Tri} (h : Least cs R k) (h' : Least cs R k') : k.2.1 = k'.2.1 := by
  have a := h.least k' h'.mem h'.le
  have b := h'.least k h.mem h.le
  omega
theorem out_in (F : List Fd) (es : Ent) (f : Fd) (b R : Nat) : ∃ c ∈ trisOf F es f b, c.1 ≤ (R : Int) := ⟨_, List.mem_map.mpr ⟨_, List.mem_cons_self .., rfl⟩, by show ((0 : Nat) : Int) ≤ (R : Int); omega⟩
/-- the fewest octets of a line for a field -/
noncomputable def mn (F : List Fd) (es : Ent) (f : Fd) (b R : Nat) : Nat := (Classical.choose (least_ex (out_in F es f b R))).2.1.toNat
theorem mn_eq {F : List Fd} {es : Ent} {f : Fd} {b R : Nat} {k : Tri} (h : Least (trisOf F es f b) R k) : k.2.1 = (mn F es f b R : Nat) := by
  have z := Classical.choose_spec (least_ex (out_in F es f b R))
  have e := least_uniq h z
  unfold mn
  generalize Classical.choose (least_ex (out_in F es f b R)) = k' at z e
  obtain ⟨l, _, rfl⟩ := List.mem_map.mp z.mem
  rw [e]
  show (((l.oct b).length : Nat) : Int) = ((((l.oct b).length : Nat) : Int).toNat : Nat)
  omega
theorem mn_spec (F : List Fd) (es : Ent) (f : Fd) (b R : Nat) : (∃ l ∈ linesL F es f, lnReq l ≤ R ∧ (l.oct b).length = mn F es f b R) ∧ ∀ l ∈ linesL F es f, lnReq l ≤ R → mn F es f b R ≤ (l.oct b).length := by
  obtain ⟨k, hk⟩ := least_ex (out_in F es f b R)
  have e := mn_eq hk
  constructor
  · obtain ⟨l, hl, rfl⟩ := List.mem_map.mp hk.mem
    have h1 : ((lnReq l : Nat) : Int) ≤ (R : Int) := hk.le
    have h2 : (((l.oct b).length : Nat) : Int) = (mn F es f b R : Nat) := e
    exact ⟨l, hl, by omega, by omega⟩
  · intro l hl hr
    have := hk.least (tri b l) (List.mem_map.mpr ⟨l, hl, rfl⟩) (by show ((lnReq l : Nat) : Int) ≤ (R : Int); omega)
    rw [e] at this
    have h2 : ((mn F es f b R : Nat) : Int) ≤ (((l.oct b).length : Nat) : Int) := this
    omega
def headN (R b : Nat) : Nat := (numOct R 8 0).length + (numOct (R - b) 8 0).length
noncomputable def lenN (F : List Fd) (es : Ent) (fs : List Fd) (R b : Nat) : Nat := headN R b + (fs.map fun f => mn F es f b R).sum
def lenK (p : Nat × Nat) : List Key := [nkey p.1, nkey p.2]
noncomputable def lenE (F : List Fd) (es : Ent) (fs : List Fd) (p : Nat × Nat) : List Key × V := (lenK p, V.int (lenN F es fs p.1 p.2 : Nat))
def rowK (lo R : Nat) : List (Nat × Nat) := (List.range (R + 1 - min lo R)).map fun j => (R, min lo R + j)
def keysL (rs : List Nat) (lo : Nat) : List (Nat × Nat) := rs.flatMap (rowK lo)
/-- the numbers of the entries, ascending -/
def skeys (es : Ent) : List Nat := (es.map (·.1)).mergeSort (fun a b => decide (a ≤ b))
def reqsL (es : Ent) : List Nat := 0 :: (skeys es).map (· + 1)
end Fld
namespace Fld
open PySem PySem.Spec PyProof.Rows L2
/-- the choices of a field, in a list -/
def RowV (K : PySem.W.Frag) (F : List Fd) (es : Ent) (b : Nat) (v : V) (f : Fd) (H : Hp) : Prop := ∃ a ys ks, v = .ref a ∧ H a = some (.lst ys) ∧ TrisV K H ys ks ∧ Best (trisOf F es f b) ks ∧ ks.length ≤ 104
theorem RowV.but {K : PySem.W.Frag} {F : List Fd} {es : Ent} {b : Nat} {v : V} {f : Fd} {H H' : Hp} (h : RowV K F es b v f H) (k : ∀ c o, (∀ z, v = .ref z → (c = z ∨ IsTupO o)) → H c = some o → H' c = some o) : RowV K F es b v f H' := by
  obtain ⟨a, ys, ks, rfl, g, ht, r⟩ := h
  have t : TS H H' := fun c u z e => k c u (fun _ _ => .inr z) e
  exact ⟨a, ys, ks, rfl, k a _ (fun z e => .inl (V.ref.inj e)) g, ht.ts t, r⟩
theorem RowV.same {K : PySem.W.Frag} {F : List Fd} {es : Ent} {b : Nat} {v : V} {f : Fd} {H H' : Hp} (h : RowV K F es b v f H) (s : Same H H') : RowV K F es b v f H' := h.but fun c o _ e => s c o e
def LenD (F : List Fd) (es : Ent) (fs : List Fd) (ps : List (Nat × Nat)) (H : Hp) (a : Addr) : Prop := ∃ kvs, H a = some (.dT kvs) ∧ kvs = ps.map (lenE F es fs)
end Fld
namespace Fld
open PySem PySem.Spec PyProof.Rows L2
noncomputable def pr3 (F : List Fd) (es : Ent) (fs : List Fd) (p : Nat × Nat) : P3 := ((lenN F es fs p.1 p.2 : Nat), (p.1 : Nat), (p.2 : Nat))
/-- the key with the fewest octets, then the least -/
structure BestP (F : List Fd) (es : Ent) (fs : List Fd) (ps : List (Nat × Nat)) (p : Nat × Nat) : Prop where
  mem : p ∈ ps
  le : ∀ x ∈ ps, le3 (pr3 F es fs p) (pr3 F es fs x)
theorem BestP.min {F : List Fd} {es : Ent} {fs : List Fd} {ps : List (Nat × Nat)} {p : Nat × Nat} (h : BestP F es fs ps p) : ∀ x ∈ ps, lenN F es fs p.1 p.2 ≤ lenN F es fs x.1 x.2 := fun x m => by
  have := h.le x m
  unfold le3 pr3 at this
  dsimp only at this
  omega
/-- a block of lines for the fields -/
structure SayB (F : List Fd) (es : Ent) (fs : List Fd) (R b : Nat) (ls : List Ln) : Prop where
  len : ls.length = fs.length
  ok : ∀ l ∈ ls, l.Ok R
  said : saidL F es ls = some fs
  oct : (lnsOct b ls).length = (fs.map fun f => mn F es f b R).sum
theorem SayB.blk {F : List Fd} {es : Ent} {fs : List Fd} {R b : Nat} {ls : List Ln} (h : SayB F es fs R b ls) (hR : R ≤ 9999) (hb : b ≤ R) (hl : fs.length ≤ 16) : (⟨R, b, ls⟩ : Blk).Ok := ⟨hR, hb, by rw [h.len]; exact hl, h.ok⟩
abbrev allK (es : Ent) : List (Nat × Nat) := keysL (reqsL es) 0
theorem LenD.same {F : List Fd} {es : Ent} {fs : List Fd} {ps : List (Nat × Nat)} {H H' : Hp} {a : Addr} (h : LenD F es fs ps H a) (s : Same H H') : LenD F es fs ps H' a := let ⟨k, e, r⟩ := h; ⟨k, s _ _ e, r⟩
end Fld
/-! min(d.values()), the keys tuples -/
namespace Fld
open PySem PySem.Spec PyProof.Rows L2
section
variable {prog : Program} {w : World} {A : Around} {E : Value → Shared → Prop} {s : Shared}
end
section
variable {X : Cx}
end
end Fld
/-! events under way -/
namespace Fld
open PySem PySem.Spec PyProof.Rows L2
section
variable {K : PySem.W.Frag} {S : List Addr} {H : Hp} {l t : Addr} {xs ys : List V} {ds es : List PyData} {vs : List V} {evs : List Evt} {ns : List Int}
theorem offL (hq : H t = none) (hS : Hid S H) : SqL K (OffS S (upd H t (.lst xs))) t xs := SqL.of (off_new hq hS)
end
section
variable {K : PySem.W.Frag} {p c C G : Addr} {n N : Nat} {F : List Fd} {r i : Nat} {H H' : Hp} {cs xs : List V} {is : List Ins} {es : List Evt} {t : Tb} {v : V} {e : Evt}
end
end Fld
namespace Fld
open PySem PySem.Spec PyProof.Rows L2
abbrev LEvs (K : PySem.W.Frag) (H : Hp) (xs : List V) (es : List Evt) : Prop := Paired (LEv K H) xs es
theorem LEvs.keep {K : PySem.W.Frag} {H H' : Hp} {xs : List V} {es : List Evt} (s : Same H H') (h : LEvs K H xs es) : LEvs K H' xs es := pmap (fun _ _ z => LEv.keep s z) h
end Fld
namespace Fld
open PySem PySem.Spec PyProof.Rows L2
section
variable {K : PySem.W.Frag} {S : List Addr} {H : Hp} {q : Addr} {ys : List V} {es : List PyData}
end
end Fld
namespace Fld
open PySem PySem.Spec PyProof.Rows L2
section
variable {K : PySem.W.Frag} {S : List Addr} {H : Hp} {q a b c p : Addr} {xs ys : List V} {ds es : List PyData} {n : Nat} {cc : Addr}
theorem Hid.less (h : Hid (c :: S) H) : Hid S H := fun b hb => h b (List.mem_cons_of_mem _ hb)
end
end Fld
namespace Fld
open PySem PySem.Spec PyProof.Rows L2
section
variable {K : PySem.W.Frag} {S : List Addr} {H H0 : Hp} {q b c p cc L : Addr} {xs ys : List V} {ds es : List PyData} {n N m : Nat}
end
end Fld
namespace Fld
open PySem PySem.Spec PyProof.Rows L2
end Fld
namespace Fld
open PySem PySem.Spec PyProof.Rows L2
end Fld
namespace Fld
open PySem PySem.Spec PyProof.Rows L2
end Fld
namespace Fld
open PySem PySem.Spec PyProof.Rows L2
end Fld
/-! sorted(d), the keys pairs of ints -/
namespace Fld
open PySem PySem.Spec PyProof.Rows L2
section
variable {X : Cx}
end
end Fld
/-! == of two dicts with the same pairs, the keys tuples -/
namespace Fld
open PySem PySem.Spec PyProof.Rows L2
section
variable {prog : Program} {w : World} {K : Type} [DecidableEq K] {knd : HeapKind prog w K} {A : Around} {E : Value → Shared → Prop} {s : Shared}
end
end Fld
/-! list(d.items()); != of what shortest tells; {(a, b): c} -/
namespace Fld
open PySem PySem.Spec PyProof.Rows L2
section
variable {X : Cx}
end
end Fld
namespace Fld
open PySem PySem.Spec PyProof.Rows L2
section
variable {X : Cx}
end
end Fld
/-! {(a, b): c} -/
namespace Fld
open PySem PySem.Spec PyProof.Rows L2
end Fld
/-! lines that are a field; lengths of fewer entries -/
namespace Fld
open PySem PySem.Spec PyProof.Rows L2
/-- a line that is a field -/
structure LL (F : List Fd) (es : Ent) (f : Fd) (R : Nat) (l : Ln) : Prop where
  ok : l.Ok R
  said : said1 F es l = some f
  mn : ∀ b, mn F es f b R ≤ (l.oct b).length
def LLs (K : PySem.W.Frag) (F : List Fd) (es : Ent) (f : Fd) (R : Nat) (H : Hp) (ys : List V) : Prop := ∀ y ∈ ys, ∃ l, LnV K H y l ∧ LL F es f R l
theorem LLs.ts {K : PySem.W.Frag} {F : List Fd} {es : Ent} {f : Fd} {R : Nat} {H H' : Hp} {ys : List V} (h : LLs K F es f R H ys) (t : TS H H') : LLs K F es f R H' ys := fun y m => let ⟨l, a, b⟩ := h y m; ⟨l, LnV.ts a t, b⟩
theorem LLs.app {K : PySem.W.Frag} {F : List Fd} {es : Ent} {f : Fd} {R : Nat} {H : Hp} {ys zs : List V} (h : LLs K F es f R H ys) (h2 : LLs K F es f R H zs) : LLs K F es f R H (ys ++ zs) := fun y m => (List.mem_append.mp m).elim (h y) (h2 y)
theorem LLs.one {K : PySem.W.Frag} {F : List Fd} {es : Ent} {f : Fd} {R : Nat} {H : Hp} {y : V} {l : Ln} (h : LnV K H y l) (h2 : LL F es f R l) : LLs K F es f R H [y] := fun x m => by rw [List.mem_singleton.mp m]; exact ⟨l, h, h2⟩
theorem LLs.nil {K : PySem.W.Frag} {F : List Fd} {es : Ent} {f : Fd} {R : Nat} {H : Hp} : LLs K F es f R H [] := fun x m => nomatch m
theorem numOct_m (n b m m' : Nat) : (numOct n b m).length = (numOct n b m').length := by
  unfold numOct
  by_cases h : n < 2 ^ b - 1
  · rw [if_pos h, if_pos h]; rfl
  · rw [if_neg h, if_neg h]; rfl
theorem numOct_pos (n b m : Nat) : 1 ≤ (numOct n b m).length := by
  unfold numOct
  by_cases h : n < 2 ^ b - 1
  · rw [if_pos h]; exact Nat.le_refl _
  · rw [if_neg h, List.length_cons]; omega
theorem fix_le {n : Nat} (h : n ≤ 40) (x : Str) (b : Nat) : ((Ln.fix1 n).oct b).length ≤ ((Ln.fix2 n x).oct b).length := by
  show (numOct n 6 192).length ≤ (numOct n 4 96 ++ strOct x 7 0).length
  have e : (numOct n 6 192).length = 1 := by unfold numOct; rw [if_pos (by omega)]; rfl
  have := numOct_pos n 4 96
  rw [List.length_append]; omega
theorem ent_le (n : Nat) (x : Str) (b : Nat) : ((Ln.ent1 n).oct b).length ≤ ((Ln.ent2 n x).oct b).length := by
  show (wholeOct b n).length ≤ (namedOct b n ++ strOct x 7 0).length
  rw [List.length_append]
  have e : (wholeOct b n).length = (namedOct b n).length := by
    unfold wholeOct namedOct
    by_cases h : n < b
    · rw [if_pos h, if_pos h]; exact numOct_m _ _ _ _
    · rw [if_neg h, if_neg h]; exact numOct_m _ _ _ _
  omega
section
variable {F : List Fd} {es : Ent} {f g : Fd} {R : Nat}
theorem fix_in {k : Nat} (h : F[k]? = some g) : (⟨0, false, k, g⟩ : Rf) ∈ refs F es := by
  refine List.mem_append_left _ (List.mem_map.mpr ⟨(g, k), ?_, rfl⟩)
  refine List.mem_of_getElem? (i := k) ?_
  rw [List.getElem?_zipIdx, h]
  show some (g, 0 + k) = some (g, k)
  rw [Nat.zero_add]
theorem ent_in {n : Nat} (h : (n, g) ∈ es) : (⟨n + 1, true, n, g⟩ : Rf) ∈ refs F es := List.mem_append_right _ (List.mem_map.mpr ⟨(n, g), h, rfl⟩)
theorem ln_in {r : Rf} {l : Ln} (h : r ∈ refs F es) (e : Rf.ln f r = some l) : l ∈ linesL F es f := List.mem_cons_of_mem _ (List.mem_filterMap.mpr ⟨r, h, e⟩)
theorem LL.in_ (ok : ShOk F es) (hf : FdOk f) {l : Ln} (m : l ∈ linesL F es f) (h : lnReq l ≤ R) : LL F es f R l := ⟨line_ok ok hf l m h, line_said ok.nd l m, fun b => (mn_spec F es f b R).2 l m h⟩
theorem LL.out (ok : ShOk F es) (hf : FdOk f) : LL F es f R (.out f.1 f.2) := LL.in_ ok hf (List.mem_cons_self ..) (Nat.zero_le _)
theorem LL.fix1 (ok : ShOk F es) (hf : FdOk f) {k : Nat} (h : F[k]? = some f) : LL F es f R (.fix1 k) := LL.in_ ok hf (ln_in (fix_in h) (by unfold Rf.ln; rw [if_pos rfl]; rfl)) (Nat.zero_le _)
theorem LL.ent1 (ok : ShOk F es) (hf : FdOk f) {n : Nat} (h : (n, f) ∈ es) (hR : n < R) : LL F es f R (.ent1 n) := LL.in_ ok hf (ln_in (ent_in h) (by unfold Rf.ln; rw [if_pos rfl]; rfl)) hR
theorem LL.fix2 (ok : ShOk F es) (hf : FdOk f) {k : Nat} (h : F[k]? = some g) (e : g.1 = f.1) : LL F es f R (.fix2 k f.2) := by
  by_cases q : g = f
  · subst q
    have hk : k < F.length := (List.getElem?_eq_some_iff.mp h).1
    have := ok.fl
    refine ⟨⟨by omega, hf.v⟩, ?_, fun b => Nat.le_trans ((LL.fix1 (R := R) ok hf h).mn b) (fix_le (by omega) _ b)⟩
    show (F[k]?).map (fun x => (x.1, g.2)) = some g
    rw [h]; rfl
  · exact LL.in_ ok hf (ln_in (fix_in h) (by unfold Rf.ln; rw [if_neg q, if_pos e]; rfl)) (Nat.zero_le _)
theorem LL.ent2 (ok : ShOk F es) (hf : FdOk f) {n : Nat} (h : (n, g) ∈ es) (e : g.1 = f.1) (hR : n < R) : LL F es f R (.ent2 n f.2) := by
  by_cases q : g = f
  · subst q
    refine ⟨⟨hR, hf.v⟩, ?_, fun b => Nat.le_trans ((LL.ent1 (R := R) ok hf h hR).mn b) (ent_le _ _ b)⟩
    show (lookE es n).map (fun x => (x.1, g.2)) = some g
    rw [(look_some_iff ok.nd).mpr h]; rfl
  · exact LL.in_ ok hf (ln_in (ent_in h) (by unfold Rf.ln; rw [if_neg q, if_pos e]; rfl)) hR
end
def LLL (F : List Fd) (es : Ent) (R : Nat) (ls : List Ln) (fs : List Fd) : Prop := Paired (fun l f => LL F es f R l) ls fs
theorem LLL.say {F : List Fd} {es : Ent} {R : Nat} (b : Nat) {ls : List Ln} {fs : List Fd} (h : LLL F es R ls fs) : ls.length = fs.length ∧ (∀ l ∈ ls, l.Ok R) ∧ saidL F es ls = some fs ∧ (fs.map fun f => mn F es f b R).sum ≤ (lnsOct b ls).length := by
  unfold LLL at h
  induction h with
  | nil => exact ⟨rfl, fun l m => (nomatch m), rfl, Nat.le_refl _⟩
  | @cons l f ls fs h _ ih =>
    obtain ⟨i1, i2, i3, i4⟩ := ih
    refine ⟨by rw [List.length_cons, List.length_cons, i1], fun x m => ?_, ?_, ?_⟩
    · rcases List.mem_cons.mp m with z | m
      · rw [z]; exact h.ok
      · exact i2 x m
    · unfold saidL
      rw [h.said, i3]
      rfl
    · have e2 : lnsOct b (l :: ls) = l.oct b ++ lnsOct b ls := rfl
      have := h.mn b
      rw [e2, List.length_append, List.map_cons, List.sum_cons]
      omega
theorem LLL.len {F : List Fd} {es : Ent} {R b : Nat} {ls : List Ln} {fs : List Fd} (h : LLL F es R ls fs) : lenN F es fs R b ≤ (⟨R, b, ls⟩ : Blk).oct.length := by
  show _ ≤ ((numOct R 8 0 ++ numOct (R - b) 8 0) ++ lnsOct b ls).length
  have := (h.say b).2.2.2
  rw [List.length_append, List.length_append]
  unfold lenN headN
  omega
end Fld
/-! what stands while the law of shortest blocks runs -/
namespace Fld
open PySem PySem.Spec PyProof.Rows L2
theorem EsOk.sub {m : Nat} {es es' : Ent} (h : EsOk m es) (s : es'.Sublist es) : EsOk m es' := ⟨Nat.le_trans s.length_le h.len, fun e he => h.key e (s.subset he), fun e he => h.fd e (s.subset he), List.Pairwise.sublist (s.map (·.1)) h.nd⟩
theorem LenD.drew {F : List Fd} {es : Ent} {fs : List Fd} {ps : List (Nat × Nat)} {H H' : Hp} {a p c : Addr} {n m : Nat} (h : LenD F es fs ps H a) (P : Pen H p c n) (d : Drew p c H H' m) : LenD F es fs ps H' a := by
  obtain ⟨kvs, g, e⟩ := h
  refine ⟨kvs, d.but _ _ (fun z => ?_) g, e⟩
  obtain ⟨zs, hz⟩ := P.some.1
  rw [z, hz] at g
  cases g
theorem EntV.drew {K : PySem.W.Frag} {H H' : Hp} {D p c : Addr} {es : Ent} {n m : Nat} (h : EntV K H D es) (P : Pen H p c n) (d : Drew p c H H' m) : EntV K H' D es := by
  refine h.ts (TS.drew P d) fun o e => d.but _ _ (fun z => ?_) e
  obtain ⟨kvs, g, _⟩ := h
  obtain ⟨zs, hz⟩ := P.some.1
  rw [z, hz] at g
  cases g
structure Wd (K : PySem.W.Frag) (sa ft D u la : Addr) (fx xs : List V) (F : List Fd) (r w : Nat) (es : Ent) (fs : List Fd) (H : Hp) : Prop where
  st : SqT K H sa [.ref ft, .int (r : Nat), .int (w : Nat)]
  ft_ : SqT K H ft fx
  fx_ : FdsV K H fx F
  en : EntV K H D es
  fu : SqT K H u xs
  fs_ : FdsV K H xs fs
  le : LenD F es fs (allK es) H la
section
variable {K : PySem.W.Frag} {sa ft D u la : Addr} {fx xs : List V} {F : List Fd} {r w : Nat} {es : Ent} {fs : List Fd} {H H' : Hp}
theorem Wd.same (h : Wd K sa ft D u la fx xs F r w es fs H) (s : Same H H') : Wd K sa ft D u la fx xs F r w es fs H' := ⟨s.tup h.st, s.tup h.ft_, h.fx_.ts (.of s), h.en.same s, s.tup h.fu, h.fs_.ts (.of s), h.le.same s⟩
theorem Wd.drew {p c : Addr} {n m : Nat} (h : Wd K sa ft D u la fx xs F r w es fs H) (P : Pen H p c n) (d : Drew p c H H' m) : Wd K sa ft D u la fx xs F r w es fs H' :=
  let t := TS.drew P d; ⟨t.tup h.st, t.tup h.ft_, h.fx_.ts t, h.en.drew P d, t.tup h.fu, h.fs_.ts t, h.le.drew P d⟩
theorem Wd.set (h : Wd K sa ft D u la fx xs F r w es fs H) : SetV K H (.ref sa) F r w := ⟨sa, ft, fx, rfl, h.st, h.ft_, h.fx_⟩
theorem Wd.tab (h : Wd K sa ft D u la fx xs F r w es fs H) : TabV K H ft D F es := ⟨⟨fx, h.ft_, h.fx_⟩, h.en⟩
end
end Fld
/-! The law's own reader, where it reads what was written. -/
namespace Fld
open PySem PySem.Spec PyProof.Rows L2
/-- ("ok", thing, next place) -/
def OkT (H : Hp) (t : Addr) (x : V) (k : Nat) : Prop := H t = some (.tup [.str "ok", x, .int (k : Nat)])
theorem first_mod {n b m : Nat} (hm : m % 2 ^ b = 0) (h : n ≤ 2 ^ b - 1) : ((m + n : Nat) : Int) % ((2 : Int) ^ b) = (n : Nat) := by
  have hp := pow_pos2 b
  have e : ((2 : Int) ^ b) = ((2 ^ b : Nat) : Int) := by norm_cast
  rw [e]
  have : (m + n) % 2 ^ b = n := by
    rw [Nat.add_mod, hm, Nat.zero_add, Nat.mod_mod, Nat.mod_eq_of_lt (by omega)]
  omega
def Ln.two : Ln → Bool
  | .fix1 _ => true
  | .ent1 _ => true
  | _ => false
theorem chars_filter : (charCodes.all fun c => (charCodes.filter fun a => decide (codeOf a = (c : Int))) == [c]) = true := by decide +kernel
theorem filter_char {c : Nat} (h : isChar c = true) : charCodes.filter (fun a => decide (codeOf a = (c : Int))) = [c] := eq_of_beq (List.all_eq_true.mp chars_filter c (List.contains_iff_mem.mp h))
theorem OkT.tup {K : PySem.W.Frag} {H : Hp} {t : Addr} {x : V} {k : Nat} (h : OkT H t x k) : SqT K H t [.str "ok", x, .int (k : Nat)] := SqT.of h
end Fld
/-! the law's own reader, good and bad -/
namespace Fld
open PySem PySem.Spec PyProof.Rows L2
/-- ("ok", thing, next place) or ("bad", place) -/
def TkT (H : Hp) (t : Addr) : Except Nat (V × Nat) → Prop
  | .ok (x, k) => H t = some (.tup [.str "ok", x, .int (k : Nat)])
  | .error e => H t = some (.tup [.str "bad", .int (e : Nat)])
def mapV {α : Type} (f : α → V) : Except Nat (α × Nat) → Except Nat (V × Nat)
  | .ok (x, k) => .ok (f x, k)
  | .error e => .error e
/-- the octets at o, the place k -/
structure Oc (K : PySem.W.Frag) (H : Hp) (o : Addr) (os : List Int) (k : Nat) : Prop where
  sq : SqL K H o (os.map V.int)
  lt : ∀ z ∈ os, 0 ≤ z ∧ z < 256
  len : os.length ≤ 1000000
  le : k ≤ os.length
theorem Oc.same {K : PySem.W.Frag} {H H' : Hp} {o : Addr} {os : List Int} {k : Nat} (h : Oc K H o os k) (s : Same H H') : Oc K H' o os k := ⟨s.seq h.sq, h.lt, h.len, h.le⟩
theorem Oc.at_ {K : PySem.W.Frag} {H : Hp} {o : Addr} {os : List Int} {k j : Nat} (h : Oc K H o os k) (l : j ≤ os.length) : Oc K H o os j := ⟨h.sq, h.lt, h.len, l⟩
/-- the octet at k has the mark m ahead of b bits -/
def MkB (os : List Int) (b m k : Nat) : Prop := ∀ z, os[k]? = some z → ((m : Nat) : Int) ≤ z ∧ z < ((m + 2 ^ b : Nat) : Int)
def sp_rd_number (K : PySem.W.Frag) : Sp := fun vs H Q _ => ∃ (o : Addr) (os : List Int) (k b m : Nat) (least most : Int), vs = [.ref o, .int (k : Nat), .int (b : Nat), .int least, .int most] ∧ Oc K H o os k ∧ b ≤ 8 ∧ m % 2 ^ b = 0 ∧ MkB os b m k ∧ least ≤ ((2 ^ b - 1 : Nat) : Int) ∧ most ≤ 9999 ∧
  ∀ t H', Same H H' → TkT H' t (mapV V.int (takeNum os b m least most k)) → Q (.ref t) H'
def sp_rd_text (K : PySem.W.Frag) : Sp := fun vs H Q _ => ∃ (o : Addr) (os : List Int) (k b m : Nat) (least most : Int), vs = [.ref o, .int (k : Nat), .int (b : Nat), .int least, .int most] ∧ Oc K H o os k ∧ b ≤ 8 ∧ m % 2 ^ b = 0 ∧ MkB os b m k ∧ 0 ≤ least ∧ least ≤ ((2 ^ b - 1 : Nat) : Int) ∧ most ≤ 40 ∧
  ∀ t H', Same H H' → TkT H' t (mapV V.str (takeStr os b m least most k)) → Q (.ref t) H'
theorem takeRest_le (most : Int) : ∀ (l : List Int) (k : Nat) (r w : Int) (n : Int) (k1 : Nat), takeRest most l k r w = .ok (n, k1) → k < k1 ∧ k1 ≤ k + l.length
  | [], k, r, w, n, k1, h => by rw [takeRest] at h; cases h
  | o :: l, k, r, w, n, k1, h => by
    rw [takeRest] at h
    rw [List.length_cons]
    split at h
    · split at h
      · have := takeRest_le most l _ _ _ n k1 h
        omega
      · cases h
    · split at h
      · cases h; omega
      · cases h
theorem takeNum_le {os : List Int} {b m : Nat} {least most : Int} {k : Nat} {n : Int} {k1 : Nat} (h : takeNum os b m least most k = .ok (n, k1)) : k < k1 ∧ k1 ≤ os.length := by
  unfold takeNum at h
  cases hz : os[k]? with
  | none => rw [hz] at h; cases h
  | some z =>
    have hl := (List.getElem?_eq_some_iff.mp hz).1
    rw [hz] at h
    dsimp only at h
    split at h
    · split at h
      · cases h; omega
      · cases ht : takeRest (most - ((2 ^ b - 1 : Nat) : Int)) (os.drop (k + 1)) (k + 1) 0 1 with
        | error e => rw [ht] at h; cases h
        | ok y =>
          rw [ht] at h
          cases h
          have := takeRest_le _ _ _ _ _ y.1 y.2 ht
          rw [List.length_drop] at this
          omega
    · cases h
theorem takeChars_le : ∀ {n : Nat} {l : List Int} {k : Nat} {cs : List Nat} {k1 : Nat}, takeChars n l k = .ok (cs, k1) → k1 = k + n ∧ n ≤ l.length
  | 0, l, k, cs, k1, h => by rw [takeChars] at h; cases h; exact ⟨rfl, Nat.zero_le _⟩
  | n + 1, [], k, cs, k1, h => by rw [takeChars] at h; cases h
  | n + 1, o :: l, k, cs, k1, h => by
    rw [takeChars] at h
    split at h
    · cases ht : takeChars n l (k + 1) with
      | error e => rw [ht] at h; cases h
      | ok y =>
        rw [ht] at h
        cases h
        obtain ⟨a, b⟩ := takeChars_le (cs := y.1) (k1 := y.2) ht
        rw [List.length_cons]
        omega
    · cases h
theorem takeStr_le {os : List Int} {b m : Nat} {least most : Int} {k : Nat} {x : Str} {k1 : Nat} (h : takeStr os b m least most k = .ok (x, k1)) : k < k1 ∧ k1 ≤ os.length := by
  unfold takeStr at h
  cases hn : takeNum os b m least most k with
  | error e => rw [hn] at h; cases h
  | ok y =>
    obtain ⟨n, j⟩ := y
    rw [hn] at h
    dsimp only at h
    have := takeNum_le hn
    cases ht : takeChars n.toNat (os.drop j) j with
    | error e => rw [ht] at h; cases h
    | ok z =>
      rw [ht] at h
      cases h
      have := takeChars_le (cs := z.1) (k1 := z.2) ht
      rw [List.length_drop] at this
      omega
theorem no_filter : ((List.range 256).all fun c => isChar c || (charCodes.filter fun a => decide (codeOf a = (c : Int))) == []) = true := by decide +kernel
theorem filter_of {z : Int} (h0 : 0 ≤ z) (h1 : z < 256) : charCodes.filter (fun a => decide (codeOf a = z)) = if isChar z.toNat = true then [z.toNat] else [] := by
  obtain ⟨c, rfl⟩ : ∃ c : Nat, z = (c : Int) := ⟨z.toNat, by omega⟩
  rw [Int.toNat_natCast]
  by_cases hc : isChar c = true
  · rw [if_pos hc]; exact filter_char hc
  · rw [if_neg hc]
    have := List.all_eq_true.mp no_filter c (List.mem_range.mpr (by omega))
    rw [Bool.or_eq_true] at this
    exact this.elim (fun e => absurd e hc) fun e => eq_of_beq e
theorem drop_cons {os : List Int} {j : Nat} {z : Int} (h : os[j]? = some z) : os.drop j = z :: os.drop (j + 1) := by
  have hl := (List.getElem?_eq_some_iff.mp h).1
  rw [List.drop_eq_getElem_cons hl]
  congr 1
  exact (List.getElem?_eq_some_iff.mp h).2
end Fld
/-! a list or a tuple against the empty one, whatever lies inside -/
namespace Fld
open PySem PySem.Spec PyProof.Rows L2
def rNeL (K : PySem.W.Frag) : R2 := fun x y H Q => ∃ a b xs, x = .ref a ∧ y = .ref b ∧ SqL K H a xs ∧ SqL K H b [] ∧ Q (.bl (!xs.isEmpty)) H
def rEqL (K : PySem.W.Frag) : R2 := fun x y H Q => ∃ a b xs, x = .ref a ∧ y = .ref b ∧ SqL K H a xs ∧ SqL K H b [] ∧ Q (.bl xs.isEmpty) H
theorem op_eqL {X : Cx} (hu : X.A.units + 64 < cLine) : OpR X (compareOp .Eq) (rEqL X.K) := by
  intro pins s σ H x y v u Q I rx ry h
  obtain ⟨a, b, xs, rfl, rfl, ha, hb, q⟩ := h
  cases rx
  cases ry
  obtain ⟨its, r1, p1, _⟩ := I.list ha
  obtain ⟨its2, r2, p2, _⟩ := I.list hb
  cases r2
  have hl := r1.length
  cases xs with
  | nil =>
    cases r1
    exact SeqAt.RcAt.lists (A := X.A) (e := fun _ => true) p1.isList p2.isList rfl (by omega) (fun j h1 _ => absurd h1 (by simp)) X.prog X.w _ _ ⟨.bl true, H, I, rfl, q⟩
  | cons z zs =>
    cases r1
    exact SeqAt.RcAt.lists_lengths (A := X.A) p1.isList p2.isList (by simp) (by omega) X.prog X.w _ _ ⟨.bl false, H, I, rfl, q⟩
theorem op_neL {X : Cx} (hu : X.A.units + 64 < cLine) : OpR X (compareOp .NotEq) (rNeL X.K) := by
  intro pins s σ H x y v u Q I rx ry h
  obtain ⟨a, b, xs, rfl, rfl, ha, hb, q⟩ := h
  cases rx
  cases ry
  obtain ⟨its, r1, p1, _⟩ := I.list ha
  obtain ⟨its2, r2, p2, _⟩ := I.list hb
  cases r2
  have hl := r1.length
  cases xs with
  | nil =>
    cases r1
    exact SeqAt.RcNeAt.lists (A := X.A) (e := fun _ => true) p1.isList p2.isList rfl (by omega) (fun j h1 _ => absurd h1 (by simp)) X.prog X.w _ _ ⟨.bl false, H, I, rfl, q⟩
  | cons z zs =>
    cases r1
    exact SeqAt.RcNeAt.lists_lengths (A := X.A) p1.isList p2.isList (by simp) (by omega) X.prog X.w _ _ ⟨.bl true, H, I, rfl, q⟩
end Fld
namespace Fld
open PySem PySem.Spec PyProof.Rows L2
def TkU (K : PySem.W.Frag) (H : Hp) (t : Addr) : Except Nat (List V × Nat) → Prop
  | .ok (vs, k) => ∃ u, H t = some (.tup [.str "ok", .ref u, .int (k : Nat)]) ∧ SqT K H u vs
  | .error e => H t = some (.tup [.str "bad", .int (e : Nat)])
theorem TkU.same {K : PySem.W.Frag} {H H' : Hp} {t : Addr} {r : Except Nat (List V × Nat)} (h : TkU K H t r) (s : Same H H') : TkU K H' t r := by
  cases r with
  | error e => exact s _ _ h
  | ok y => obtain ⟨u, g, k⟩ := h; exact ⟨u, s _ _ g, s.tup k⟩
def sglRes (w : Str) : Except Nat (Int × Nat) → Except Nat (List V × Nat)
  | .ok (n, k) => .ok ([.str w, .int n], k)
  | .error e => .error e
def pairRes (w : Str) (os : List Int) : Except Nat (V × Nat) → Except Nat (List V × Nat)
  | .ok (v, k) => match takeStr os 7 0 0 40 k with
    | .ok (x, k2) => .ok ([.str w, v, .str x], k2)
    | .error e => .error e
  | .error e => .error e
def WordOk (w : Str) : Prop := inV (V.str w) [.str "before", .str "behind"] = false
def sp_rd_single (K : PySem.W.Frag) : Sp := fun vs H Q _ => ∃ (o f : Addr) (os : List Int) (k b m : Nat) (least most : Int) (w : Str), vs = [.ref o, .int (k : Nat), .ref f, .non] ∧ SqT K H f [.str w, .str "number", .int (b : Nat), .int least, .int most] ∧ Oc K H o os k ∧ b ≤ 8 ∧ m % 2 ^ b = 0 ∧ MkB os b m k ∧
  least ≤ ((2 ^ b - 1 : Nat) : Int) ∧ most ≤ 9999 ∧ WordOk w ∧ ∀ t H', Same H H' → TkU K H' t (sglRes w (takeNum os b m least most k)) → Q (.ref t) H'
def frRes (isT : Bool) (os : List Int) (b m : Nat) (least most : Int) (k : Nat) : Except Nat (V × Nat) := if isT = true then mapV V.str (takeStr os b m least most k) else mapV V.int (takeNum os b m least most k)
def frKd (isT : Bool) : Str := if isT = true then "text" else "number"
theorem fr_le {isT : Bool} {os : List Int} {b m : Nat} {least most : Int} {k k1 : Nat} {v : V} (h : frRes isT os b m least most k = .ok (v, k1)) : k1 ≤ os.length := by
  unfold frRes at h
  cases isT with
  | true =>
    cases ht : takeStr os b m least most k with
    | error e => rw [if_pos rfl, ht] at h; cases h
    | ok y => rw [if_pos rfl, ht] at h; cases h; exact (takeStr_le (x := y.1) (k1 := y.2) ht).2
  | false =>
    cases ht : takeNum os b m least most k with
    | error e => rw [if_neg (by decide), ht] at h; cases h
    | ok y => rw [if_neg (by decide), ht] at h; cases h; exact (takeNum_le (n := y.1) (k1 := y.2) ht).2
def sp_rd_pair (K : PySem.W.Frag) : Sp := fun vs H Q _ => ∃ (o f : Addr) (os : List Int) (k b m : Nat) (least most : Int) (w : Str) (isT : Bool), vs = [.ref o, .int (k : Nat), .ref f, .non] ∧ SqT K H f [.str w, .str (frKd isT), .int (b : Nat), .int least, .int most] ∧ Oc K H o os k ∧ b ≤ 8 ∧ m % 2 ^ b = 0 ∧ MkB os b m k ∧
  0 ≤ least ∧ least ≤ ((2 ^ b - 1 : Nat) : Int) ∧ most ≤ 9999 ∧ (isT = true → most ≤ 40) ∧ WordOk w ∧ ∀ t H', Same H H' → TkU K H' t (pairRes w os (frRes isT os b m least most k)) → Q (.ref t) H'
theorem str_high {os : List Int} {k : Nat} {z : Int} (h : os[k]? = some z) (h2 : 127 < z) : takeStr os 7 0 0 40 k = .error k := by
  unfold takeStr takeNum
  rw [h]
  dsimp only
  rw [if_neg (by
    intro c
    have := c.2
    have h127 : ((2 ^ 7 - 1 : Nat) : Int) = 127 := rfl
    omega)]
def oneV : Option Int → List V
  | some z => [V.int z]
  | none => []
theorem cut_one (os : List Int) (k : Nat) : cutV (os.map V.int) (some ((k : Nat) : Int)) (some ((k : Nat) + 1)) = oneV os[k]? := by
  rw [show (((k : Nat) : Int) + 1) = ((k + 1 : Nat) : Int) by omega, cut_mid, show k + 1 - k = 1 by omega]
  cases h : os[k]? with
  | none => rw [List.drop_eq_nil_of_le (by rw [List.length_map]; exact List.getElem?_eq_none_iff.mp h)]; rfl
  | some z => rw [← List.map_drop, drop_cons h]; rfl
def pairTl (wd : Str) (v : V) : Except Nat (Str × Nat) → Except Nat (List V × Nat)
  | .ok (x, k2) => .ok ([.str wd, v, .str x], k2)
  | .error e => .error e
theorem pair_tl (wd : Str) (os : List Int) (v : V) (k : Nat) : pairRes wd os (.ok (v, k)) = pairTl wd v (takeStr os 7 0 0 40 k) := rfl
def insRes (os : List Int) : Except Nat (List V × Nat) := match takeIns os 0 with
  | .ok (i, k) => .ok (i.vs, k)
  | .error e => .error e
def ansRes (os : List Int) : Except Nat (List V × Nat) := match takeAns os 0 with
  | .ok (i, k) => .ok (i.vs, k)
  | .error e => .error e
def sp_rd_ins (K : PySem.W.Frag) : Sp := fun vs H Q _ => ∃ (o : Addr) (os : List Int), vs = [.ref o] ∧ Oc K H o os 0 ∧ ∀ t H', Same H H' → TkU K H' t (insRes os) → Q (.ref t) H'
def sp_rd_ans (K : PySem.W.Frag) : Sp := fun vs H Q _ => ∃ (o : Addr) (os : List Int), vs = [.ref o] ∧ Oc K H o os 0 ∧ ∀ t H', Same H H' → TkU K H' t (ansRes os) → Q (.ref t) H'
section
variable {os : List Int} {z : Int}
theorem ins_fixed (hz : os[0]? = some z) (h : 192 ≤ z) (hos : ∀ o ∈ os, 0 ≤ o) : pairRes "fixed" os (frRes false os 6 192 0 9999 0) = insRes os := by
  unfold insRes takeIns frRes
  rw [hz, if_neg (by decide)]
  dsimp only
  rw [if_neg (by omega), if_neg (by omega)]
  unfold takeSrc
  rw [hz]
  dsimp only
  rw [if_pos h]
  cases hn : takeNum os 6 192 0 9999 0 with
  | error e => rfl
  | ok y =>
    obtain ⟨n, k⟩ := y
    have hb := takeNum_bound os 6 192 0 9999 0 hos n k hn
    show pairRes "fixed" os (.ok (V.int n, k)) = _
    rw [pair_tl]
    show _ = (match (takeStr os 7 0 0 40 k).map fun z => (srcIns z.1 (.inr (true, n.toNat)), z.2) with | .ok (i, k) => Except.ok (i.vs, k) | .error e => .error e)
    cases takeStr os 7 0 0 40 k with
    | error e => rfl
    | ok x =>
      show Except.ok ([V.str "fixed", V.int n, V.str x.1], x.2) = Except.ok ([V.str "fixed", V.int (n.toNat : Nat), V.str x.1], x.2)
      rw [Int.toNat_of_nonneg (by omega)]
theorem ins_entry (hz : os[0]? = some z) (h : 128 ≤ z) (h2 : z < 192) (hos : ∀ o ∈ os, 0 ≤ o) : pairRes "entry" os (frRes false os 6 128 0 9999 0) = insRes os := by
  unfold insRes takeIns frRes
  rw [hz, if_neg (by decide)]
  dsimp only
  rw [if_neg (by omega), if_neg (by omega)]
  unfold takeSrc
  rw [hz]
  dsimp only
  rw [if_neg (by omega), if_pos h]
  cases hn : takeNum os 6 128 0 9999 0 with
  | error e => rfl
  | ok y =>
    obtain ⟨n, k⟩ := y
    have hb := takeNum_bound os 6 128 0 9999 0 hos n k hn
    show pairRes "entry" os (.ok (V.int n, k)) = _
    rw [pair_tl]
    show _ = (match (takeStr os 7 0 0 40 k).map fun z => (srcIns z.1 (.inr (false, n.toNat)), z.2) with | .ok (i, k) => Except.ok (i.vs, k) | .error e => .error e)
    cases takeStr os 7 0 0 40 k with
    | error e => rfl
    | ok x =>
      show Except.ok ([V.str "entry", V.int n, V.str x.1], x.2) = Except.ok ([V.str "entry", V.int (n.toNat : Nat), V.str x.1], x.2)
      rw [Int.toNat_of_nonneg (by omega)]
theorem ins_new (hz : os[0]? = some z) (h : 64 ≤ z) (h2 : z < 128) : pairRes "new" os (frRes true os 5 64 1 20 0) = insRes os := by
  unfold insRes takeIns frRes
  rw [hz, if_pos rfl]
  dsimp only
  rw [if_neg (by omega), if_neg (by omega)]
  unfold takeSrc
  rw [hz]
  dsimp only
  rw [if_neg (by omega), if_neg (by omega)]
  cases hn : takeStr os 5 64 1 20 0 with
  | error e => rfl
  | ok y =>
    obtain ⟨n, k⟩ := y
    show pairRes "new" os (.ok (V.str n, k)) = _
    rw [pair_tl]
    show _ = (match (takeStr os 7 0 0 40 k).map fun z => (srcIns z.1 (.inl n), z.2) with | .ok (i, k) => Except.ok (i.vs, k) | .error e => .error e)
    cases takeStr os 7 0 0 40 k with
    | error e => rfl
    | ok x => rfl
theorem ins_bad (hz : os[0]? = some z) (h : 96 ≤ z) (h2 : z < 128) : insRes os = .error 0 := by
  rw [← ins_new hz (by omega) h2]
  have : takeStr os 5 64 1 20 0 = .error 0 := by
    unfold takeStr takeNum
    rw [hz]
    dsimp only
    rw [if_neg (by
      intro c
      have := c.2
      have h31 : ((2 ^ 5 - 1 : Nat) : Int) = 31 := rfl
      omega)]
  unfold frRes
  rw [if_pos rfl, this]
  rfl
theorem ins_limit (hz : os[0]? = some z) (h : 32 ≤ z) (h2 : z < 64) (hos : ∀ o ∈ os, 0 ≤ o) : sglRes "limit" (takeNum os 5 32 0 9999 0) = insRes os := by
  unfold insRes takeIns
  rw [hz]
  dsimp only
  rw [if_neg (by omega), if_pos h2]
  cases hn : takeNum os 5 32 0 9999 0 with
  | error e => rfl
  | ok y =>
    have hb := takeNum_bound os 5 32 0 9999 0 hos y.1 y.2 hn
    show Except.ok ([V.str "limit", V.int y.1], y.2) = Except.ok ([V.str "limit", V.int (y.1.toNat : Nat)], y.2)
    rw [Int.toNat_of_nonneg (by omega)]
theorem ins_again (hz : os[0]? = some z) (h2 : z < 32) (hos : ∀ o ∈ os, 0 ≤ o) : sglRes "again" (takeNum os 5 0 0 9999 0) = insRes os := by
  unfold insRes takeIns
  rw [hz]
  dsimp only
  rw [if_pos h2]
  cases hn : takeNum os 5 0 0 9999 0 with
  | error e => rfl
  | ok y =>
    have hb := takeNum_bound os 5 0 0 9999 0 hos y.1 y.2 hn
    show Except.ok ([V.str "again", V.int y.1], y.2) = Except.ok ([V.str "again", V.int (y.1.toNat : Nat)], y.2)
    rw [Int.toNat_of_nonneg (by omega)]
theorem ans_done (hz : os[0]? = some z) (h : 128 ≤ z) (hos : ∀ o ∈ os, 0 ≤ o) : sglRes "done" (takeNum os 7 128 0 20 0) = ansRes os := by
  unfold ansRes takeAns
  rw [hz]
  dsimp only
  rw [if_pos h]
  cases hn : takeNum os 7 128 0 20 0 with
  | error e => rfl
  | ok y =>
    have hb := takeNum_bound os 7 128 0 20 0 hos y.1 y.2 hn
    show Except.ok ([V.str "done", V.int y.1], y.2) = Except.ok ([V.str "done", V.int (y.1.toNat : Nat)], y.2)
    rw [Int.toNat_of_nonneg (by omega)]
theorem ans_canc (hz : os[0]? = some z) (h : 64 ≤ z) (h2 : z < 128) (hos : ∀ o ∈ os, 0 ≤ o) : sglRes "cancelled" (takeNum os 6 64 0 20 0) = ansRes os := by
  unfold ansRes takeAns
  rw [hz]
  dsimp only
  rw [if_neg (by omega), if_pos h]
  cases hn : takeNum os 6 64 0 20 0 with
  | error e => rfl
  | ok y =>
    have hb := takeNum_bound os 6 64 0 20 0 hos y.1 y.2 hn
    show Except.ok ([V.str "cancelled", V.int y.1], y.2) = Except.ok ([V.str "cancelled", V.int (y.1.toNat : Nat)], y.2)
    rw [Int.toNat_of_nonneg (by omega)]
theorem ans_recv (hz : os[0]? = some z) (h2 : z < 64) (hos : ∀ o ∈ os, 0 ≤ o) : sglRes "received" (takeNum os 6 0 1 9999 0) = ansRes os := by
  unfold ansRes takeAns
  rw [hz]
  dsimp only
  rw [if_neg (by omega), if_neg (by omega)]
  cases hn : takeNum os 6 0 1 9999 0 with
  | error e => rfl
  | ok y =>
    have hb := takeNum_bound os 6 0 1 9999 0 hos y.1 y.2 hn
    show Except.ok ([V.str "received", V.int y.1], y.2) = Except.ok ([V.str "received", V.int (y.1.toNat : Nat)], y.2)
    rw [Int.toNat_of_nonneg (by omega)]
theorem mk_of {b m : Nat} (hz : os[0]? = some z) (h1 : ((m : Nat) : Int) ≤ z) (h2 : z < ((m + 2 ^ b : Nat) : Int)) : MkB os b m 0 := fun y e => by
  rw [hz] at e
  cases e
  exact ⟨h1, h2⟩
end
/-- read to the end: what the law says of it -/
def endRes (n : Nat) : Except Nat (List V × Nat) → Except Nat (List V)
  | .ok (vs, k) => if k = n then .ok vs else .error k
  | .error e => .error e
def TkE (K : PySem.W.Frag) (H : Hp) (t : Addr) : Except Nat (List V) → Prop
  | .ok vs => ∃ u, H t = some (.tup [.str "ok", .ref u]) ∧ SqT K H u vs
  | .error e => H t = some (.tup [.str "bad", .int (e : Nat)])
theorem TkE.same {K : PySem.W.Frag} {H H' : Hp} {t : Addr} {r : Except Nat (List V)} (h : TkE K H t r) (s : Same H H') : TkE K H' t r := by
  cases r with
  | error e => exact s _ _ h
  | ok y => obtain ⟨u, g, k⟩ := h; exact ⟨u, s _ _ g, s.tup k⟩
def sp_rd_whole (K : PySem.W.Frag) : Sp := fun vs H Q _ => ∃ (t o : Addr) (xs : List V) (r : Except Nat (List V × Nat)), vs = [.ref t, .ref o] ∧ TkU K H t r ∧ SqL K H o xs ∧ ∀ t' H', Same H H' → TkE K H' t' (endRes xs.length r) → Q (.ref t') H'
end Fld
/-! a reading that is handed on, what it tells -/
namespace Fld
open PySem PySem.Spec PyProof.Rows L2 LamX NdefX
/-- a call of one name with the lambda's one parameter -/
structure LW where
  x : Str
  f : Str
  pa : Pos
  pf : Pos
  px : Pos
  pc : Pos
def LW.args (l : LW) : Arguments := ⟨[], [⟨l.x, none, l.pa⟩], none, [], [], none, []⟩
def LW.scope (l : LW) : Scope := { kind := .function, names := [(l.x, .local), (l.f, .globalImplicit)], isGenerator := false, isCoroutine := false }
def LW.body (l : LW) : Expr := .Call (.Name l.f l.pf) [.Name l.x l.px] [] l.pc
def LW.nf (l : LW) (q : Str) (c : Addr) : NF := lamF q l.args l.scope c
def lamQ : Str := ("law" ++ ".<locals>.") ++ "<lambda>"
def wRes {α : Type} (g : List Int → Nat → Except Nat (α × Nat)) (vs : α → List V) (os : List Int) : Except Nat (List V) := match whole os g with
  | .ok x => .ok (vs x)
  | .error e => .error e
theorem ins_end (os : List Int) : endRes os.length (insRes os) = wRes takeIns Ins.vs os := by
  unfold wRes whole insRes
  cases takeIns os 0 with
  | error e => rfl
  | ok y =>
    show (if y.2 = os.length then Except.ok y.1.vs else .error y.2) = _
    by_cases h : y.2 = os.length
    · rw [if_pos h]; dsimp only; rw [if_pos h]
    · rw [if_neg h]; dsimp only; rw [if_neg h]
theorem ans_end (os : List Int) : endRes os.length (ansRes os) = wRes takeAns Ans.vs os := by
  unfold wRes whole ansRes
  cases takeAns os 0 with
  | error e => rfl
  | ok y =>
    show (if y.2 = os.length then Except.ok y.1.vs else .error y.2) = _
    by_cases h : y.2 = os.length
    · rw [if_pos h]; dsimp only; rw [if_pos h]
    · rw [if_neg h]; dsimp only; rw [if_neg h]
/-- what is told of a value: the octets' meaning or the place; of another value "list" -/
def Told (K : PySem.W.Frag) (H : Hp) (Q : VK) (v : V) (res : List Int → Except Nat (List V)) : Prop := AnyH K H v
  (fun xs => if octV xs = true then ∃ os : List Int, xs = os.map V.int ∧ ∀ t H', Same H H' → TkE K H' t (res os) → Q (.ref t) H'
   else ∀ H', Same H H' → Q (.str "list") H') (∀ H', Same H H' → Q (.str "list") H')
theorem Told.pre {K : PySem.W.Frag} {H H1 : Hp} {Q : VK} {v : V} {res : List Int → Except Nat (List V)} (s : Same H H1) (h : Told K H Q v res) : Told K H1 Q v res := by
  rcases h with ⟨a, xs, rfl, hs, hl, hk, q⟩ | ⟨t, k, ht, q⟩
  · refine .inl ⟨a, xs, rfl, s _ _ hs, hl, fun x m => (hk x m).imp fun t k => k.keep s, ?_⟩
    by_cases c : octV xs = true
    · rw [if_pos c] at q ⊢
      obtain ⟨os, e, q⟩ := q
      exact ⟨os, e, fun t H' s' k => q t H' (s.trans s') k⟩
    · rw [if_neg c] at q ⊢
      exact fun H' s' => q H' (s.trans s')
  · exact .inr ⟨t, k.keep s, ht, fun H' s' => q H' (s.trans s')⟩
def sp_told1 (K : PySem.W.Frag) (l : LW) (res : List Int → Except Nat (List V)) : Sp := fun vs H Q _ => ∃ (f c' : Addr) (v : V), vs = [.ref f, v] ∧ H f = some (LnO f (l.nf lamQ c') l.body) ∧ H c' = some (CodeO c' lamQ) ∧ Told K H Q v res
def lwA : LW := ⟨"row", "read_instruction", ⟨344, 37, 344, 40⟩, ⟨344, 42, 344, 58⟩, ⟨344, 59, 344, 62⟩, ⟨344, 42, 344, 63⟩⟩
def lwB : LW := ⟨"other", "read_answer", ⟨345, 41, 345, 46⟩, ⟨345, 48, 345, 59⟩, ⟨345, 60, 345, 65⟩, ⟨345, 48, 345, 66⟩⟩
def lwC : LW := ⟨"third", "read_instruction", ⟨354, 33, 354, 38⟩, ⟨354, 40, 354, 56⟩, ⟨354, 57, 354, 62⟩, ⟨354, 40, 354, 63⟩⟩
def lwD : LW := ⟨"fourth", "read_answer", ⟨355, 37, 355, 43⟩, ⟨355, 45, 355, 56⟩, ⟨355, 57, 355, 63⟩, ⟨355, 45, 355, 64⟩⟩
def sp_told8 (K : PySem.W.Frag) : Sp := fun vs H Q E => (sp_told1 K lwA (wRes takeIns Ins.vs) vs H Q E ∨ sp_told1 K lwB (wRes takeAns Ans.vs) vs H Q E) ∨ (sp_told1 K lwC (wRes takeIns Ins.vs) vs H Q E ∨ sp_told1 K lwD (wRes takeAns Ans.vs) vs H Q E)
end Fld
/-! the law of the readers: the pen, the table of lambdas, lists of octets -/
namespace Fld
open PySem PySem.Spec PyProof.Rows L2 LamX NdefX
def TB8 (P0 : Addr) : List NTab := [(P0, fun _ _ => lamQ)]
/-- the pen and the table -/
structure W8 (P0 p c : Addr) (H : Hp) (n : Nat) : Prop where
  pen : Pen H p c n
  tab : TabsN (TB8 P0) H
section
variable {P0 p c q : Addr} {H H' : Hp} {n m : Nat} {o : HO}
theorem W8.tb (w : W8 P0 p c H n) : ∃ ps, H P0 = some (.tbl ps) := by
  obtain ⟨ps, h, _⟩ := w.tab _ (List.mem_singleton.mpr rfl)
  exact ⟨ps, h⟩
theorem W8.same (w : W8 P0 p c H n) (s : Same H H') : W8 P0 p c H' n := ⟨w.pen.keep s, w.tab.ext s⟩
theorem W8.mono (w : W8 P0 p c H n) (l : n ≤ m) : W8 P0 p c H m := ⟨w.pen.mono l, w.tab⟩
theorem W8.drew (w : W8 P0 p c H n) (d : Drew p c H H' m) : W8 P0 p c H' m := by
  obtain ⟨xs, e⟩ := w.pen.some.1
  exact ⟨d.pen, tabs_but w.tab e d.but⟩
theorem W8.lam (w : W8 P0 p c H n) (b : But P0 H H') (t : TabsN (TB8 P0) H') : W8 P0 p c H' n := by
  obtain ⟨ps, e⟩ := w.tb
  obtain ⟨a, acc, ns, h1, h2, h3, h4, h5⟩ := w.pen.ex
  refine ⟨⟨a, acc, ns, b _ _ (fun z => ?_) h1, b _ _ (fun z => ?_) h2, h3, h4, h5⟩, t⟩
  · rw [z, e] at h1; cases h1
  · rw [z, e] at h2; cases h2
theorem W8.new8 (w : W8 P0 p c H n) (h : H q = none) : W8 P0 p c (upd H q o) n := w.same (Same.new h)
theorem W8.hid (w : W8 P0 p c H n) : Hid [P0, p] H := (Hid.one w.pen).cons (by obtain ⟨ps, e⟩ := w.tb; rw [e]; exact fun z => nomatch z)
theorem W8.off (w : W8 P0 p c H n) (h : H q = none) : q ∉ [P0, p] := w.hid.not h
theorem mem8 : p ∈ [P0, p] := List.mem_cons_of_mem _ (List.mem_singleton.mpr rfl)
theorem off8_d (d : Drew p c H H' m) : Same (OffS [P0, p] H) (OffS [P0, p] H') := d.off mem8
theorem off8_l (b : But P0 H H') : Same (OffS [P0, p] H) (OffS [P0, p] H') := b.off (List.mem_cons_self ..)
theorem off8_n (h : q ∉ [P0, p]) (e : H q = some o) : OffS [P0, p] H q = some o := by rw [off_ne h]; exact e
theorem off8_pp (h : OffS [P0, p] H q = some o) : q ≠ p := fun z => (off_get h).1 (z ▸ mem8)
end
/-- a list of octets -/
def OL (G : Hp) (v : V) : Prop := ∃ (o : Addr) (os : List Int), v = .ref o ∧ G o = some (.lst (os.map V.int)) ∧ Octs os ∧ os.length ≤ 400
def AllOL (G : Hp) (xs : List V) : Prop := ∀ x ∈ xs, OL G x
section
variable {G G' : Hp} {v : V} {xs ys : List V}
theorem OL.keep (h : OL G v) (s : Same G G') : OL G' v := by
  obtain ⟨o, os, e, g, r⟩ := h
  exact ⟨o, os, e, s _ _ g, r⟩
theorem AllOL.keep (h : AllOL G xs) (s : Same G G') : AllOL G' xs := fun x hx => (h x hx).keep s
theorem AllOL.nil : AllOL G [] := fun x hx => nomatch hx
theorem AllOL.cons (h : OL G v) (t : AllOL G xs) : AllOL G (v :: xs) := fun x hx => by
  rcases List.mem_cons.mp hx with rfl | hx
  · exact h
  · exact t x hx
theorem AllOL.app (h : AllOL G xs) (t : AllOL G ys) : AllOL G (xs ++ ys) := fun x hx => by
  rcases List.mem_append.mp hx with hx | hx
  · exact h x hx
  · exact t x hx
end
theorem sz_oct {os : List Int} (h : Octs os) (hl : os.length ≤ 400) : Sz 500000 1 (.list (os.map PyData.int)) := by
  have h1 : ∀ d ∈ os.map PyData.int, Sz 1010 0 d := fun d hd => by
    obtain ⟨i, hi, rfl⟩ := List.mem_map.mp hd
    have := h i hi
    exact sz_int (Nat.lt_of_lt_of_le (show i.natAbs < 2 ^ 8 by omega) (by decide +kernel))
  have hw : ∀ ds : List PyData, (∀ d ∈ ds, Sz 1010 0 d) → okVAll ds = true ∧ wVAll ds ≤ 1012 * ds.length ∧ PyData.depthAll ds ≤ 0 := by
    intro ds
    induction ds with
    | nil => intro _; exact ⟨rfl, by rw [wVAll]; omega, by rw [PyData.depthAll]; omega⟩
    | cons d ds ih =>
      intro h
      have h0 := h d (List.mem_cons_self ..)
      obtain ⟨a, b, e⟩ := ih fun x hx => h x (List.mem_cons_of_mem _ hx)
      refine ⟨by rw [okVAll, h0.ok, a]; rfl, ?_, ?_⟩
      · rw [wVAll, List.length_cons]
        have := h0.w
        omega
      · rw [PyData.depthAll]
        have := h0.dp
        omega
  obtain ⟨a, b, e⟩ := hw _ h1
  rw [List.length_map] at b
  exact sz_lst' a (by omega) e
theorem ans_len2 {i : Ans} (ok : i.Ok) : i.oct.length ≤ 3 := by
  cases i with
  | done n => exact numOct_len3 (Nat.le_trans (show n ≤ 20 from ok) (by decide))
  | cancelled n => exact numOct_len3 (Nat.le_trans (show n ≤ 20 from ok) (by decide))
  | received n => exact numOct_len3 ok.2
theorem ins_len2 {i : Ins} (ok : i.Ok) : i.oct.length ≤ 90 := by
  cases i with
  | again n => have := numOct_len3 (b := 5) (m := 0) (show n ≤ 9999 from ok); show (numOct n 5 0).length ≤ _; omega
  | limit n => have := numOct_len3 (b := 5) (m := 32) (show n ≤ 9999 from ok); show (numOct n 5 32).length ≤ _; omega
  | fixed n x => have := numOct_len3 (b := 6) (m := 192) ok.1; have := strOct_len2 (b := 7) (m := 0) (txt_len ok.2); show (numOct n 6 192 ++ strOct x 7 0).length ≤ _; rw [List.length_append]; omega
  | entry n x => have := numOct_len3 (b := 6) (m := 128) ok.1; have := strOct_len2 (b := 7) (m := 0) (txt_len ok.2); show (numOct n 6 128 ++ strOct x 7 0).length ≤ _; rw [List.length_append]; omega
  | new y x => have := strOct_len2 (x := y) (b := 5) (m := 64) (txt_len (txt_20 ok.1)); have := strOct_len2 (b := 7) (m := 0) (txt_len ok.2); show (strOct y 5 64 ++ strOct x 7 0).length ≤ _; rw [List.length_append]; omega
/-- a list of lists of octets under way at D -/
structure Lc8 (P0 p c D : Addr) (Ha : Hp) (n i : Nat) (ys : List V) (H' : Hp) : Prop where
  drew : Drew p c Ha H' (n + 20 * i)
  all : AllOL (OffS [D, P0, p] H') ys
section
variable {P0 p c D : Addr} {Ha H' H4 : Hp} {n i : Nat} {ys : List V} {v : V}
theorem Lc8.start (hp : Pen Ha p c n) (hD : Ha D = none) : Lc8 P0 p c D Ha n 0 [] (upd Ha D (.lst [])) := ⟨⟨(hp.new hD).mono (by omega), But.new hD⟩, .nil⟩
theorem Lc8.step (I : Lc8 P0 p c D Ha n i ys H') (hp : Pen Ha p c n) (hD : Ha D = none) (g : H' D = some (.lst ys)) (hv : OL (OffS [D, P0, p] H4) v) (h4 : Drew p c H' H4 (n + 20 * i + 20)) :
    H4 D = some (.lst ys) ∧ Lc8 P0 p c D Ha n (i + 1) (ys ++ [v]) (upd H4 D (.lst (ys ++ [v]))) := by
  have nD : D ≠ p := fun z => hp.some_ (z ▸ hD)
  have nC : c ≠ D := hp.nec hD
  refine ⟨h4.but _ _ nD g, ⟨(h4.pen.upd (fun z => nD z.symm) nC).mono (by omega), (I.drew.but.trans h4.but).put hD⟩, ?_⟩
  exact ((I.all.keep (h4.off (List.mem_cons_of_mem _ mem8))).app (.cons hv .nil)).keep (off_hid (List.mem_cons_self ..))
end
end Fld
namespace Fld
open PySem PySem.Spec PyProof.Rows L2 LamX NdefX
/-- the law is handed a script; the table of its code object is empty -/
def spLaw8 (K : PySem.W.Frag) (cs : List (Addr × Addr)) : Sp := fun vs H Q _ => ∃ (a : Addr) (ns : List Int), vs = [.ref a] ∧ SqL K H a (ns.map V.int) ∧ ns.length ≤ 63 ∧ (∀ p ∈ cs, H p.2 = some (.tbl #[])) ∧ ∀ H', Q (.bl true) H'
section
variable {K : PySem.W.Frag} {G H H' : Hp} {v : V} {S : List Addr} {Q : VK}
theorem OL.told (h : OL G v) (s : Same G H) {res : List Int → Except Nat (List V)} (q : ∀ os : List Int, Octs os → (∃ o, v = .ref o ∧ G o = some (.lst (os.map V.int))) → ∀ t H', Same H H' → TkE K H' t (res os) → Q (.ref t) H') : Told K H Q v res := by
  obtain ⟨o, os, rfl, g, ho, hl⟩ := h
  refine .inl ⟨o, _, rfl, s _ _ g, by rw [List.length_map]; omega, kinds_ints _, ?_⟩
  show (if octV _ = true then _ else _)
  rw [if_pos (octV_of ho)]
  exact ⟨os, rfl, fun t H' s' k => q os ho ⟨o, rfl, g⟩ t H' s' k⟩
/-- no list of octets -/
def Wr (K : PySem.W.Frag) (G : Hp) (v : V) : Prop := (∃ (a : Addr) (xs : List V), v = .ref a ∧ G a = some (.lst xs) ∧ xs.length ≤ 1000000 ∧ (∀ x ∈ xs, ∃ t, Kind K G x t) ∧ octV xs = false) ∨ ∃ t, Kind K G v t ∧ (t == "list") = false
theorem Wr.keep (h : Wr K G v) (s : Same G H) : Wr K H v := by
  rcases h with ⟨a, xs, e, g, l, k, o⟩ | ⟨t, k, e⟩
  · exact .inl ⟨a, xs, e, s _ _ g, l, fun x hx => by obtain ⟨t, kt⟩ := k x hx; exact ⟨t, kt.keep s⟩, o⟩
  · exact .inr ⟨t, k.keep s, e⟩
theorem Wr.told (h : Wr K G v) (s : Same G H) {res : List Int → Except Nat (List V)} (q : ∀ H', Same H H' → Q (.str "list") H') : Told K H Q v res := by
  rcases h.keep s with ⟨a, xs, rfl, g, l, k, o⟩ | ⟨t, k, e⟩
  · refine .inl ⟨a, xs, rfl, g, l, k, ?_⟩
    show (if octV _ = true then _ else _)
    rw [if_neg (by rw [o]; decide)]
    exact q
  · exact .inr ⟨t, k, e, q⟩
end
def tolD {α : Type} (dat : α → PyData) : Except Nat α → PyData
  | .ok x => .tuple [.str "ok", dat x]
  | .error e => .tuple [.str "bad", .int (e : Nat)]
def iD (os : List Int) : PyData := tolD Ins.dat (whole os takeIns)
def aD (os : List Int) : PyData := tolD Ans.dat (whole os takeAns)
theorem tkE_ins {K : PySem.W.Frag} {H : Hp} {t : Addr} {os : List Int} (h : TkE K H t (wRes takeIns Ins.vs os)) : Dp K H (.ref t) (iD os) := by
  unfold wRes at h
  unfold iD
  cases hw : whole os takeIns with
  | ok x =>
    rw [hw] at h
    obtain ⟨u, g, k⟩ := h
    exact .tup (SqT.of g) (.cons (.str _) (.cons (dp_ins k) .nil))
  | error e =>
    rw [hw] at h
    exact .tup (SqT.of h) (.cons (.str _) (.cons (.int _) .nil))
theorem tkE_ans {K : PySem.W.Frag} {H : Hp} {t : Addr} {os : List Int} (h : TkE K H t (wRes takeAns Ans.vs os)) : Dp K H (.ref t) (aD os) := by
  unfold wRes at h
  unfold aD
  cases hw : whole os takeAns with
  | ok x =>
    rw [hw] at h
    obtain ⟨u, g, k⟩ := h
    exact .tup (SqT.of g) (.cons (.str _) (.cons (dp_ans k) .nil))
  | error e =>
    rw [hw] at h
    exact .tup (SqT.of h) (.cons (.str _) (.cons (.int _) .nil))
theorem dle_iD (os : List Int) (n : Nat) : DLe (n + 2) (iD os) := by
  unfold iD
  cases whole os takeIns with
  | ok x => exact dle_2 (dle_str _ _) (dle_ins n x)
  | error e => exact dle_2 (dle_str _ _) (dle_int _ _)
theorem dle_aD (os : List Int) (n : Nat) : DLe (n + 2) (aD os) := by
  unfold aD
  cases whole os takeAns with
  | ok x => exact dle_2 (dle_str _ _) (dle_ans n x)
  | error e => exact dle_2 (dle_str _ _) (dle_int _ _)
end Fld
namespace Fld
open PySem PySem.Spec PyProof.Rows L2 LamX NdefX
/-- at o: at most b octets -/
def LO (b : Nat) (G : Hp) (o : Addr) : Prop := ∃ os : List Int, G o = some (.lst (os.map V.int)) ∧ Octs os ∧ os.length ≤ b
theorem LO.keep {b : Nat} {G G' : Hp} {o : Addr} (h : LO b G o) (s : Same G G') : LO b G' o := by
  obtain ⟨os, g, r⟩ := h
  exact ⟨os, s _ _ g, r⟩
theorem LO.ol {b : Nat} {G : Hp} {o : Addr} (h : LO b G o) (l : b ≤ 400) : OL G (.ref o) := by
  obtain ⟨os, g, h1, h2⟩ := h
  exact ⟨o, os, rfl, g, h1, by omega⟩
theorem LO.none {b : Nat} {S : List Addr} {H : Hp} {o : Addr} (h : LO b (OffS S H) o) : H o ≠ none := by
  obtain ⟨os, g, _⟩ := h
  rw [(off_get g).2]
  exact fun z => nomatch z
theorem lo_new {b : Nat} {P0 p c q : Addr} {H : Hp} {n : Nat} {os : List Int} (w : W8 P0 p c H n) (hq : H q = none) (h1 : Octs os) (h2 : os.length ≤ b) : LO b (OffS [P0, p] (upd H q (.lst (os.map V.int)))) q := ⟨os, off8_n (w.off hq) upd_same, h1, h2⟩
end Fld
namespace Fld
open PySem PySem.Spec PyProof.Rows L2 LamX NdefX
theorem octs_lit {os : List Int} (h : (os.all fun i => decide (0 ≤ i ∧ i < 256)) = true) : Octs os := fun o ho => of_decide_eq_true (List.all_eq_true.mp h o ho)
theorem lo_lay {b : Nat} {P0 p c q : Addr} {H : Hp} {n : Nat} {vs : List V} (os : List Int) (w : W8 P0 p c H n) (hq : H q = none) (e : vs = os.map V.int) (h1 : Octs os) (h2 : os.length ≤ b) : LO b (OffS [P0, p] (upd H q (.lst vs))) q := by
  subst e
  exact lo_new w hq h1 h2
end Fld
namespace Fld
open PySem PySem.Spec PyProof.Rows L2 LamX NdefX
theorem LO.mono {b b' : Nat} {G : Hp} {o : Addr} (h : LO b G o) (l : b ≤ b') : LO b' G o := by
  obtain ⟨os, g, h1, h2⟩ := h
  exact ⟨os, g, h1, Nat.le_trans h2 l⟩
/-- a list of lists of octets gets one more -/
theorem ref_ne {G : Hp} {S : Addr} {xs : List V} (g : G S = some (.lst xs)) (a : AllOL G xs) (hx : xs ≠ []) : ∀ o os, G o = some (.lst (List.map V.int os)) → o ≠ S := fun o os e z => by
  rw [z, g] at e
  have e : xs = os.map V.int := HO.lst.inj (Option.some.inj e)
  cases xs with
  | nil => exact hx rfl
  | cons x xs =>
    obtain ⟨o, _, rfl, _⟩ := a x (List.mem_cons_self ..)
    cases os with
    | nil => cases e
    | cons i is => cases e
theorem W8.put {P0 p c S Z : Addr} {H : Hp} {n b : Nat} {xs : List V} (w : W8 P0 p c H n) (g : OffS [P0, p] H S = some (.lst xs)) (a : AllOL (OffS [P0, p] H) xs) (hx : xs ≠ []) (z : LO b (OffS [P0, p] H) Z) (l : b ≤ 400) :
    W8 P0 p c (upd H S (.lst (xs ++ [.ref Z]))) n ∧ OffS [P0, p] (upd H S (.lst (xs ++ [.ref Z]))) S = some (.lst (xs ++ [.ref Z])) ∧ AllOL (OffS [P0, p] (upd H S (.lst (xs ++ [.ref Z])))) (xs ++ [.ref Z]) ∧ ∀ k o, LO k (OffS [P0, p] H) o → LO k (OffS [P0, p] (upd H S (.lst (xs ++ [.ref Z])))) o := by
  have nS := off_get g
  have hS := ref_ne g a hx
  have hc : c ≠ S := fun z => by
    obtain ⟨q1, q2, ns, _, h2, _⟩ := w.pen.ex
    rw [z, nS.2] at h2
    have e : xs = ns.map V.int := HO.lst.inj (Option.some.inj h2)
    exact hS S ns (by rw [g, e]) rfl
  have kp : ∀ k o, LO k (OffS [P0, p] H) o → LO k (OffS [P0, p] (upd H S (.lst (xs ++ [.ref Z])))) o := fun k o ⟨os, h, r⟩ => by
    have no := off_get h
    exact ⟨os, by rw [off_ne no.1, upd_ne (hS _ _ h)]; exact no.2, r⟩
  refine ⟨⟨w.pen.upd (fun z => nS.1 (z ▸ mem8)) hc, tabs_but w.tab nS.2 But.set⟩, by rw [off_ne nS.1, upd_same], fun x hx => ?_, kp⟩
  have hx : ∃ o, x = .ref o ∧ LO 400 (OffS [P0, p] H) o := by
    rcases List.mem_append.mp hx with hx | hx
    · obtain ⟨o, os, e, g, h⟩ := a x hx
      exact ⟨o, e, os, g, h⟩
    · exact ⟨Z, List.mem_singleton.mp hx, z.mono l⟩
  obtain ⟨o, rfl, ho⟩ := hx
  exact (kp _ _ ho).ol (Nat.le_refl _)
end Fld
namespace Fld
open PySem PySem.Spec PyProof.Rows L2 LamX NdefX
section
variable {K : PySem.W.Frag} {P0 p c q L t : Addr} {H : Hp} {n : Nat} {o : HO} {vs : List V}
theorem W8.notin (w : W8 P0 p c H n) (h : H q = some o) (h1 : ∀ xs, o ≠ .lst xs) (h2 : ∀ ps, o ≠ .tbl ps) : q ∉ [P0, p] := fun m => by
  rcases List.mem_cons.mp m with e | m
  · obtain ⟨ps, z⟩ := w.tb
    rw [e, z] at h
    exact h2 ps (Option.some.inj h).symm
  · obtain ⟨⟨xs, z⟩, _⟩ := w.pen.some
    rw [List.mem_singleton.mp m, z] at h
    exact h1 xs (Option.some.inj h).symm
theorem W8.sqT (w : W8 P0 p c H n) (h : SqT K H q vs) : SqT K (OffS [P0, p] H) q vs := by
  rcases h with (h | ⟨o, h⟩) | h
  · exact .inl (.inl (off8_n (w.notin h (fun _ z => nomatch z) (fun _ z => nomatch z)) h))
  · exact .inl (.inr ⟨o, off8_n (w.notin h (fun _ z => nomatch z) (fun _ z => nomatch z)) h⟩)
  · exact .inr h
theorem W8.tkE (w : W8 P0 p c H n) {r : Except Nat (List V)} (h : TkE K H t r) : TkE K (OffS [P0, p] H) t r := by
  cases r with
  | ok vs =>
    obtain ⟨u, g, k⟩ := h
    exact ⟨u, off8_n (w.notin g (fun _ z => nomatch z) (fun _ z => nomatch z)) g, w.sqT k⟩
  | error e =>
    have g : H t = some (.tup [.str "bad", .int (e : Nat)]) := h
    exact off8_n (w.notin g (fun _ z => nomatch z) (fun _ z => nomatch z)) g
theorem lay_hid (hL : H L = none) : Same (OffS [P0, p] H) (OffS [L, P0, p] (upd H L o)) := (off_more hL).trans (off_hid (List.mem_cons_self ..))
theorem W8.app1 (w : W8 P0 p c H n) (g : H L = some (.lst [.ref t])) (hL : L ∉ [P0, p]) : W8 P0 p c (upd H L o) n := by
  obtain ⟨q1, q2, ns, _, h2, _⟩ := w.pen.ex
  refine ⟨w.pen.upd (fun z => hL (z ▸ mem8)) (fun z => ?_), tabs_but w.tab g But.set⟩
  rw [z, g] at h2
  have e : [V.ref t] = ns.map V.int := HO.lst.inj (Option.some.inj h2)
  cases ns with
  | nil => cases e
  | cons i is => cases e
theorem mem83 : P0 ∈ [L, P0, p] := List.mem_cons_of_mem _ (List.mem_cons_self ..)
end
end Fld
namespace Fld
open PySem PySem.Spec PyProof.Rows L2 LamX NdefX
theorem told_oct {K : PySem.W.Frag} {H : Hp} {Q : VK} {o : Addr} {os : List Int} {res : List Int → Except Nat (List V)} (g : H o = some (.lst (os.map V.int))) (ho : Octs os) (hl : os.length ≤ 400) (q : ∀ t H', Same H H' → TkE K H' t (res os) → Q (.ref t) H') : Told K H Q (.ref o) res := by
  refine .inl ⟨o, _, rfl, g, by rw [List.length_map]; omega, kinds_ints _, ?_⟩
  show (if octV _ = true then _ else _)
  rw [if_pos (octV_of ho)]
  exact ⟨os, rfl, q⟩
end Fld
namespace Fld
open PySem PySem.Spec PyProof.Rows L2 LamX NdefX
theorem TkE.put {K : PySem.W.Frag} {S : List Addr} {H : Hp} {L t : Addr} {xs : List V} {o : HO} {r : Except Nat (List V)} (g : H L = some (.lst xs)) (k : TkE K (OffS S H) t r) : TkE K (OffS S (upd H L o)) t r := by
  have kp : ∀ b u, (∀ ys, u ≠ .lst ys) → OffS S H b = some u → OffS S (upd H L o) b = some u := fun b u h e => by
    have e := off_get e
    have n : b ≠ L := fun z => by rw [z, g] at e; exact h _ (Option.some.inj e.2).symm
    rw [off_ne e.1, upd_ne n]
    exact e.2
  cases r with
  | ok vs =>
    obtain ⟨u, g, k⟩ := k
    refine ⟨u, kp _ _ (fun _ z => nomatch z) g, ?_⟩
    rcases k with (k | ⟨o, k⟩) | k
    · exact .inl (.inl (kp _ _ (fun _ z => nomatch z) k))
    · exact .inl (.inr ⟨o, kp _ _ (fun _ z => nomatch z) k⟩)
    · exact .inr k
  | error e =>
    have k : OffS S H t = some (.tup [.str "bad", .int (e : Nat)]) := k
    exact kp _ _ (fun _ z => nomatch z) k
end Fld
namespace Fld
open PySem PySem.Spec PyProof.Rows L2 LamX NdefX
def scV : V → Bool
  | .non => true
  | .bl _ => true
  | .int _ => true
  | .str _ => true
  | _ => false
theorem scV_kind {K : PySem.W.Frag} {G : Hp} {x : V} (h : scV x = true) : ∃ t, Kind K G x t := by
  cases x with
  | non => exact ⟨_, .non⟩
  | bl b => exact ⟨_, .bl b⟩
  | int i => exact ⟨_, .int i⟩
  | str s => exact ⟨_, .str s⟩
  | _ => cases h
section
variable {K : PySem.W.Frag} {P0 p c q : Addr} {H : Hp} {n : Nat} {xs : List V}
theorem wr_lst (w : W8 P0 p c H n) (hq : H q = none) (h1 : xs.all scV = true) (h2 : octV xs = false) (h3 : xs.length ≤ 1000000) : Wr K (OffS [P0, p] (upd H q (.lst xs))) (.ref q) := .inl ⟨q, xs, rfl, off8_n (w.off hq) upd_same, h3, fun x hx => scV_kind (List.all_eq_true.mp h1 x hx), h2⟩
theorem wr_tup (w : W8 P0 p c H n) (hq : H q = none) : Wr K (OffS [P0, p] (upd H q (.tup xs))) (.ref q) := .inr ⟨_, .tup (SqT.of (off8_n (w.off hq) upd_same)), by decide⟩
theorem wr_dic (w : W8 P0 p c H n) (hq : H q = none) : Wr K (OffS [P0, p] (upd H q (.dK []))) (.ref q) := .inr ⟨_, .dK (off8_n (w.off hq) upd_same), by decide⟩
theorem wr_sc {G : Hp} {x : V} (h : scV x = true) : Wr K G x := by
  cases x with
  | non => exact .inr ⟨_, .non, by decide⟩
  | bl b => exact .inr ⟨_, .bl b, by decide⟩
  | int i => exact .inr ⟨_, .int i, by decide⟩
  | str s => exact .inr ⟨_, .str s, by decide⟩
  | _ => cases h
end
end Fld
namespace Fld
open PySem PySem.Spec PyProof.Rows L2 LamX NdefX
/-- at B: a list that is no list of octets -/
def BL (K : PySem.W.Frag) (b : Nat) (G : Hp) (B : Addr) : Prop := ∃ bs : List V, G B = some (.lst bs) ∧ bs.length ≤ b ∧ (∀ y ∈ bs, ∃ t, Kind K G y t) ∧ octV bs = false
section
variable {K : PySem.W.Frag} {P0 p c q B : Addr} {G G' H : Hp} {n b : Nat} {bs xs ys : List V} {x : V}
theorem BL.keep (h : BL K b G B) (s : Same G G') : BL K b G' B := by
  obtain ⟨bs, g, l, k, o⟩ := h
  exact ⟨bs, s _ _ g, l, fun y hy => by obtain ⟨t, kt⟩ := k y hy; exact ⟨t, kt.keep s⟩, o⟩
theorem BL.wr (h : BL K b G B) (l : b ≤ 1000000) : Wr K G (.ref B) := by
  obtain ⟨bs, g, l', k, o⟩ := h
  exact .inl ⟨B, bs, rfl, g, Nat.le_trans l' l, k, o⟩
theorem BL.mono {b' : Nat} (h : BL K b G B) (l : b ≤ b') : BL K b' G B := by
  obtain ⟨bs, g, l', r⟩ := h
  exact ⟨bs, g, Nat.le_trans l' l, r⟩
theorem bl_new (w : W8 P0 p c H n) (hq : H q = none) (hl : bs.length ≤ b) (hk : ∀ y ∈ bs, ∃ t, Kind K (OffS [P0, p] H) y t) (ho : octV bs = false) : BL K b (OffS [P0, p] (upd H q (.lst bs))) q :=
  ⟨bs, off8_n (w.off hq) upd_same, hl, fun y hy => by obtain ⟨t, kt⟩ := hk y hy; exact ⟨t, kt.keep (Same.new hq).off⟩, ho⟩
theorem octV_app (h : octV xs = false ∨ octV ys = false) : octV (xs ++ ys) = false := by
  unfold octV at h ⊢
  rw [List.all_append]
  rcases h with h | h
  · rw [h]; rfl
  · rw [h]; exact Bool.and_false _
theorem kd_app (h1 : ∀ y ∈ xs, ∃ t, Kind K G y t) (h2 : ∀ y ∈ ys, ∃ t, Kind K G y t) : ∀ y ∈ xs ++ ys, ∃ t, Kind K G y t := fun y hy => by
  rcases List.mem_append.mp hy with h | h
  · exact h1 y h
  · exact h2 y h
theorem kd_ints {os : List Int} : ∀ y ∈ os.map V.int, ∃ t, Kind K G y t := fun y hy => by
  obtain ⟨i, _, rfl⟩ := List.mem_map.mp hy
  exact ⟨_, .int i⟩
theorem kd_one (h : ∃ t, Kind K G x t) : ∀ y ∈ [x], ∃ t, Kind K G y t := fun y hy => by rw [List.mem_singleton.mp hy]; exact h
end
end Fld
namespace Fld
open PySem PySem.Spec PyProof.Rows L2 LamX NdefX
theorem BL.pre {K : PySem.W.Frag} {P0 p c q : Addr} {H : Hp} {n b : Nat} {z : Int} {bs : List V} (w : W8 P0 p c H n) (hq : H q = none) (hl : bs.length ≤ b) (hk : ∀ y ∈ bs, ∃ t, Kind K (OffS [P0, p] H) y t) (ho : octV bs = false) : BL K (b + 1) (OffS [P0, p] (upd H q (.lst ([.int z] ++ bs)))) q :=
  bl_new w hq (by rw [List.length_append]; show 1 + bs.length ≤ b + 1; omega) (kd_app (kd_one ⟨_, .int z⟩) hk) (octV_app (.inr ho))
end Fld
namespace Fld
open PySem PySem.Spec PyProof.Rows L2 LamX NdefX
theorem W8.app2 {P0 p c L : Addr} {H : Hp} {n : Nat} {o : HO} {z : Str} (w : W8 P0 p c H n) (g : H L = some (.lst [.str z])) (hL : L ∉ [P0, p]) : W8 P0 p c (upd H L o) n := by
  obtain ⟨q1, q2, ns, _, h2, _⟩ := w.pen.ex
  refine ⟨w.pen.upd (fun z => hL (z ▸ mem8)) (fun z => ?_), tabs_but w.tab g But.set⟩
  rw [z, g] at h2
  have e : [V.str _] = ns.map V.int := HO.lst.inj (Option.some.inj h2)
  cases ns with
  | nil => cases e
  | cons i is => cases e
end Fld
namespace Fld
open PySem PySem.Spec PyProof.Rows L2
/-! ### the text by places -/
def top (i : Nat) : Stmt := PySem.Challenge.pw_fieldtable_k08_instructions_and_answers.main.body.getD i (.Pass ⟨0, 0, 0, 0⟩)
abbrev s_NoOctets_init : Stmt := inClass (top 3) 0
abbrev s_is_between : Stmt := top 11
abbrev s_are_octets : Stmt := top 12
abbrev s_check_octets : Stmt := top 13
abbrev s_prefix_bits : Stmt := top 14
abbrev s_Reader_init : Stmt := inClass (top 15) 0
abbrev s_Reader_at_end : Stmt := inClass (top 15) 1
abbrev s_Reader_look : Stmt := inClass (top 15) 2
abbrev s_Reader_accept : Stmt := inClass (top 15) 3
abbrev s_Reader_finish : Stmt := inClass (top 15) 4
abbrev s_Reader_take_number : Stmt := inClass (top 15) 5
abbrev s_Reader_take_rest : Stmt := inClass (top 15) 6
abbrev s_Reader_take_string : Stmt := inClass (top 15) 7
abbrev s_Reader_take_name : Stmt := inClass (top 15) 8
abbrev s_Reader_take_value : Stmt := inClass (top 15) 9
abbrev s_read_instruction : Stmt := top 17
abbrev s_take_instruction : Stmt := top 18
abbrev s_take_source : Stmt := top 19
abbrev s_read_answer : Stmt := top 20
abbrev s_take_answer : Stmt := top 21
abbrev s_law_open : Stmt := top 23
abbrev s_law_spread : Stmt := top 24
abbrev s_law_take : Stmt := top 25
abbrev s_law_same : Stmt := top 26
abbrev s_law_one_of : Stmt := top 27
abbrev s_law_signs : Stmt := top 28
abbrev s_law_draw_text : Stmt := top 29
abbrev s_law_draw_number : Stmt := top 30
abbrev s_law_number_octets : Stmt := top 31
abbrev s_law_code : Stmt := top 32
abbrev s_law_text_octets : Stmt := top 33
abbrev s_law_instruction_octets : Stmt := top 34
abbrev s_law_answer_octets : Stmt := top 35
abbrev s_law_draw_instruction : Stmt := top 36
abbrev s_law_draw_answer : Stmt := top 37
abbrev s_law_read_number : Stmt := top 38
abbrev s_law_read_text : Stmt := top 39
abbrev s_law_read_pair : Stmt := top 40
abbrev s_law_read_single : Stmt := top 41
abbrev s_law_read_instruction : Stmt := top 42
abbrev s_law_read_answer : Stmt := top 43
abbrev s_law_whole : Stmt := top 44
abbrev s_law_bent_octets : Stmt := top 45
abbrev s_law_told : Stmt := top 46
abbrev s_law : Stmt := top 47
/-- what the top has written -/
structure Txt_0 (K : PySem.W.Frag) (mg : Str → Option Value) where
  f_NoOctets_init : Addr
  d_NoOctets_init : FuncData
  F_NoOctets_init : Fun K "__init__" "NoOctets.__init__" s_NoOctets_init f_NoOctets_init d_NoOctets_init
  b_NoOctets_init : Binds K d_NoOctets_init ["self", "place"] []
  f_is_between : Addr
  d_is_between : FuncData
  F_is_between : Fun K "is_between" "is_between" s_is_between f_is_between d_is_between
  b_is_between : Binds K d_is_between ["thing", "least", "most"] []
  g_is_between : mg "is_between" = some (.ref f_is_between)
  f_are_octets : Addr
  d_are_octets : FuncData
  F_are_octets : Fun K "are_octets" "are_octets" s_are_octets f_are_octets d_are_octets
  b_are_octets : Binds K d_are_octets ["thing"] []
  g_are_octets : mg "are_octets" = some (.ref f_are_octets)
  f_check_octets : Addr
  d_check_octets : FuncData
  F_check_octets : Fun K "check_octets" "check_octets" s_check_octets f_check_octets d_check_octets
  b_check_octets : Binds K d_check_octets ["octets"] []
  g_check_octets : mg "check_octets" = some (.ref f_check_octets)
  f_prefix_bits : Addr
  d_prefix_bits : FuncData
  F_prefix_bits : Fun K "prefix_bits" "prefix_bits" s_prefix_bits f_prefix_bits d_prefix_bits
  b_prefix_bits : Binds K d_prefix_bits ["prefix"] []
  g_prefix_bits : mg "prefix_bits" = some (.ref f_prefix_bits)
  f_Reader_init : Addr
  d_Reader_init : FuncData
  F_Reader_init : Fun K "__init__" "Reader.__init__" s_Reader_init f_Reader_init d_Reader_init
  b_Reader_init : Binds K d_Reader_init ["self", "octets"] []
  f_Reader_at_end : Addr
  d_Reader_at_end : FuncData
  F_Reader_at_end : Fun K "at_end" "Reader.at_end" s_Reader_at_end f_Reader_at_end d_Reader_at_end
  b_Reader_at_end : Binds K d_Reader_at_end ["self"] []
  f_Reader_look : Addr
  d_Reader_look : FuncData
  F_Reader_look : Fun K "look" "Reader.look" s_Reader_look f_Reader_look d_Reader_look
  b_Reader_look : Binds K d_Reader_look ["self"] []
  f_Reader_accept : Addr
  d_Reader_accept : FuncData
  F_Reader_accept : Fun K "accept" "Reader.accept" s_Reader_accept f_Reader_accept d_Reader_accept
  b_Reader_accept : Binds K d_Reader_accept ["self", "fits"] []
structure Txt_1 (K : PySem.W.Frag) (mg : Str → Option Value) extends Txt_0 K mg where
  f_Reader_finish : Addr
  d_Reader_finish : FuncData
  F_Reader_finish : Fun K "finish" "Reader.finish" s_Reader_finish f_Reader_finish d_Reader_finish
  b_Reader_finish : Binds K d_Reader_finish ["self"] []
  f_Reader_take_number : Addr
  d_Reader_take_number : FuncData
  F_Reader_take_number : Fun K "take_number" "Reader.take_number" s_Reader_take_number f_Reader_take_number d_Reader_take_number
  b_Reader_take_number : Binds K d_Reader_take_number ["self", "prefix", "mark", "least", "most"] []
  f_Reader_take_rest : Addr
  d_Reader_take_rest : FuncData
  F_Reader_take_rest : Fun K "take_rest" "Reader.take_rest" s_Reader_take_rest f_Reader_take_rest d_Reader_take_rest
  b_Reader_take_rest : Binds K d_Reader_take_rest ["self", "most"] []
  f_Reader_take_string : Addr
  d_Reader_take_string : FuncData
  F_Reader_take_string : Fun K "take_string" "Reader.take_string" s_Reader_take_string f_Reader_take_string d_Reader_take_string
  b_Reader_take_string : Binds K d_Reader_take_string ["self", "prefix", "mark", "least", "most"] []
  f_Reader_take_name : Addr
  d_Reader_take_name : FuncData
  F_Reader_take_name : Fun K "take_name" "Reader.take_name" s_Reader_take_name f_Reader_take_name d_Reader_take_name
  b_Reader_take_name : Binds K d_Reader_take_name ["self", "prefix", "mark"] []
  f_Reader_take_value : Addr
  d_Reader_take_value : FuncData
  F_Reader_take_value : Fun K "take_value" "Reader.take_value" s_Reader_take_value f_Reader_take_value d_Reader_take_value
  b_Reader_take_value : Binds K d_Reader_take_value ["self"] []
  f_read_instruction : Addr
  d_read_instruction : FuncData
  F_read_instruction : Fun K "read_instruction" "read_instruction" s_read_instruction f_read_instruction d_read_instruction
  b_read_instruction : Binds K d_read_instruction ["octets"] []
  g_read_instruction : mg "read_instruction" = some (.ref f_read_instruction)
  f_take_instruction : Addr
  d_take_instruction : FuncData
  F_take_instruction : Fun K "take_instruction" "take_instruction" s_take_instruction f_take_instruction d_take_instruction
  b_take_instruction : Binds K d_take_instruction ["reader"] []
  g_take_instruction : mg "take_instruction" = some (.ref f_take_instruction)
  f_take_source : Addr
  d_take_source : FuncData
  F_take_source : Fun K "take_source" "take_source" s_take_source f_take_source d_take_source
  b_take_source : Binds K d_take_source ["reader"] []
  g_take_source : mg "take_source" = some (.ref f_take_source)
  f_read_answer : Addr
structure Txt_2 (K : PySem.W.Frag) (mg : Str → Option Value) extends Txt_1 K mg where
  d_read_answer : FuncData
  F_read_answer : Fun K "read_answer" "read_answer" s_read_answer f_read_answer d_read_answer
  b_read_answer : Binds K d_read_answer ["octets"] []
  g_read_answer : mg "read_answer" = some (.ref f_read_answer)
  f_take_answer : Addr
  d_take_answer : FuncData
  F_take_answer : Fun K "take_answer" "take_answer" s_take_answer f_take_answer d_take_answer
  b_take_answer : Binds K d_take_answer ["reader"] []
  g_take_answer : mg "take_answer" = some (.ref f_take_answer)
  f_law_open : Addr
  d_law_open : FuncData
  F_law_open : Fun K "_law_open" "_law_open" s_law_open f_law_open d_law_open
  b_law_open : Binds K d_law_open ["script"] []
  g_law_open : mg "_law_open" = some (.ref f_law_open)
  f_law_spread : Addr
  d_law_spread : FuncData
  F_law_spread : Fun K "_law_spread" "_law_spread" s_law_spread f_law_spread d_law_spread
  b_law_spread : Binds K d_law_spread ["cell", "at"] []
  g_law_spread : mg "_law_spread" = some (.ref f_law_spread)
  f_law_take : Addr
  d_law_take : FuncData
  F_law_take : Fun K "_law_take" "_law_take" s_law_take f_law_take d_law_take
  b_law_take : Binds K d_law_take ["pen", "amount"] []
  g_law_take : mg "_law_take" = some (.ref f_law_take)
  f_law_same : Addr
  d_law_same : FuncData
  F_law_same : Fun K "_law_same" "_law_same" s_law_same f_law_same d_law_same
  b_law_same : Binds K d_law_same ["found", "due"] []
  g_law_same : mg "_law_same" = some (.ref f_law_same)
  f_law_one_of : Addr
  d_law_one_of : FuncData
  F_law_one_of : Fun K "_law_one_of" "_law_one_of" s_law_one_of f_law_one_of d_law_one_of
  b_law_one_of : Binds K d_law_one_of ["pen", "some"] []
  g_law_one_of : mg "_law_one_of" = some (.ref f_law_one_of)
  f_law_signs : Addr
  d_law_signs : FuncData
  F_law_signs : Fun K "_law_signs" "_law_signs" s_law_signs f_law_signs d_law_signs
  b_law_signs : Binds K d_law_signs [] []
  g_law_signs : mg "_law_signs" = some (.ref f_law_signs)
  f_law_draw_text : Addr
structure Txt_3 (K : PySem.W.Frag) (mg : Str → Option Value) extends Txt_2 K mg where
  d_law_draw_text : FuncData
  F_law_draw_text : Fun K "_law_draw_text" "_law_draw_text" s_law_draw_text f_law_draw_text d_law_draw_text
  b_law_draw_text : Binds K d_law_draw_text ["pen", "least", "most"] []
  g_law_draw_text : mg "_law_draw_text" = some (.ref f_law_draw_text)
  f_law_draw_number : Addr
  d_law_draw_number : FuncData
  F_law_draw_number : Fun K "_law_draw_number" "_law_draw_number" s_law_draw_number f_law_draw_number d_law_draw_number
  b_law_draw_number : Binds K d_law_draw_number ["pen"] []
  g_law_draw_number : mg "_law_draw_number" = some (.ref f_law_draw_number)
  f_law_number_octets : Addr
  d_law_number_octets : FuncData
  F_law_number_octets : Fun K "_law_number_octets" "_law_number_octets" s_law_number_octets f_law_number_octets d_law_number_octets
  b_law_number_octets : Binds K d_law_number_octets ["number", "prefix", "mark"] []
  g_law_number_octets : mg "_law_number_octets" = some (.ref f_law_number_octets)
  f_law_code : Addr
  d_law_code : FuncData
  F_law_code : Fun K "_law_code" "_law_code" s_law_code f_law_code d_law_code
  b_law_code : Binds K d_law_code ["sign"] []
  g_law_code : mg "_law_code" = some (.ref f_law_code)
  f_law_text_octets : Addr
  d_law_text_octets : FuncData
  F_law_text_octets : Fun K "_law_text_octets" "_law_text_octets" s_law_text_octets f_law_text_octets d_law_text_octets
  b_law_text_octets : Binds K d_law_text_octets ["text", "prefix", "mark"] []
  g_law_text_octets : mg "_law_text_octets" = some (.ref f_law_text_octets)
  f_law_instruction_octets : Addr
  d_law_instruction_octets : FuncData
  F_law_instruction_octets : Fun K "_law_instruction_octets" "_law_instruction_octets" s_law_instruction_octets f_law_instruction_octets d_law_instruction_octets
  b_law_instruction_octets : Binds K d_law_instruction_octets ["one"] []
  g_law_instruction_octets : mg "_law_instruction_octets" = some (.ref f_law_instruction_octets)
  f_law_answer_octets : Addr
  d_law_answer_octets : FuncData
  F_law_answer_octets : Fun K "_law_answer_octets" "_law_answer_octets" s_law_answer_octets f_law_answer_octets d_law_answer_octets
  b_law_answer_octets : Binds K d_law_answer_octets ["one"] []
  g_law_answer_octets : mg "_law_answer_octets" = some (.ref f_law_answer_octets)
  f_law_draw_instruction : Addr
  d_law_draw_instruction : FuncData
  F_law_draw_instruction : Fun K "_law_draw_instruction" "_law_draw_instruction" s_law_draw_instruction f_law_draw_instruction d_law_draw_instruction
  b_law_draw_instruction : Binds K d_law_draw_instruction ["pen"] []
  g_law_draw_instruction : mg "_law_draw_instruction" = some (.ref f_law_draw_instruction)
  f_law_draw_answer : Addr
structure Txt_4 (K : PySem.W.Frag) (mg : Str → Option Value) extends Txt_3 K mg where
  d_law_draw_answer : FuncData
  F_law_draw_answer : Fun K "_law_draw_answer" "_law_draw_answer" s_law_draw_answer f_law_draw_answer d_law_draw_answer
  b_law_draw_answer : Binds K d_law_draw_answer ["pen"] []
  g_law_draw_answer : mg "_law_draw_answer" = some (.ref f_law_draw_answer)
  f_law_read_number : Addr
  d_law_read_number : FuncData
  F_law_read_number : Fun K "_law_read_number" "_law_read_number" s_law_read_number f_law_read_number d_law_read_number
  b_law_read_number : Binds K d_law_read_number ["octets", "place", "prefix", "least", "most"] []
  g_law_read_number : mg "_law_read_number" = some (.ref f_law_read_number)
  f_law_read_text : Addr
  d_law_read_text : FuncData
  F_law_read_text : Fun K "_law_read_text" "_law_read_text" s_law_read_text f_law_read_text d_law_read_text
  b_law_read_text : Binds K d_law_read_text ["octets", "place", "prefix", "least", "most"] []
  g_law_read_text : mg "_law_read_text" = some (.ref f_law_read_text)
  f_law_read_pair : Addr
  d_law_read_pair : FuncData
  F_law_read_pair : Fun K "_law_read_pair" "_law_read_pair" s_law_read_pair f_law_read_pair d_law_read_pair
  b_law_read_pair : Binds K d_law_read_pair ["octets", "place", "front", "head"] []
  g_law_read_pair : mg "_law_read_pair" = some (.ref f_law_read_pair)
  f_law_read_single : Addr
  d_law_read_single : FuncData
  F_law_read_single : Fun K "_law_read_single" "_law_read_single" s_law_read_single f_law_read_single d_law_read_single
  b_law_read_single : Binds K d_law_read_single ["octets", "place", "front", "head"] []
  g_law_read_single : mg "_law_read_single" = some (.ref f_law_read_single)
  f_law_read_instruction : Addr
  d_law_read_instruction : FuncData
  F_law_read_instruction : Fun K "_law_read_instruction" "_law_read_instruction" s_law_read_instruction f_law_read_instruction d_law_read_instruction
  b_law_read_instruction : Binds K d_law_read_instruction ["octets"] []
  g_law_read_instruction : mg "_law_read_instruction" = some (.ref f_law_read_instruction)
  f_law_read_answer : Addr
  d_law_read_answer : FuncData
  F_law_read_answer : Fun K "_law_read_answer" "_law_read_answer" s_law_read_answer f_law_read_answer d_law_read_answer
  b_law_read_answer : Binds K d_law_read_answer ["octets"] []
  g_law_read_answer : mg "_law_read_answer" = some (.ref f_law_read_answer)
  f_law_whole : Addr
  d_law_whole : FuncData
  F_law_whole : Fun K "_law_whole" "_law_whole" s_law_whole f_law_whole d_law_whole
  b_law_whole : Binds K d_law_whole ["told", "octets"] []
  g_law_whole : mg "_law_whole" = some (.ref f_law_whole)
  f_law_bent_octets : Addr
structure Txt_5 (K : PySem.W.Frag) (mg : Str → Option Value) extends Txt_4 K mg where
  d_law_bent_octets : FuncData
  F_law_bent_octets : Fun K "_law_bent_octets" "_law_bent_octets" s_law_bent_octets f_law_bent_octets d_law_bent_octets
  b_law_bent_octets : Binds K d_law_bent_octets ["pen", "octets"] []
  g_law_bent_octets : mg "_law_bent_octets" = some (.ref f_law_bent_octets)
  f_law_told : Addr
  d_law_told : FuncData
  F_law_told : Fun K "_law_told" "_law_told" s_law_told f_law_told d_law_told
  b_law_told : Binds K d_law_told ["read", "octets"] []
  g_law_told : mg "_law_told" = some (.ref f_law_told)
  f_law : Addr
  d_law : FuncData
  F_law : Fun K "law" "law" s_law f_law d_law
  b_law : Binds K d_law ["script"] []
  g_law : mg "law" = some (.ref f_law)
  C_FieldError : Addr
  m_FieldError : Value
  B_FieldError : BaseC K mg "FieldError" C_FieldError m_FieldError
  R_FieldError : RootC K C_FieldError
  C_NoOctetList : Addr
  P_NoOctetList : PlainC K mg "NoOctetList" C_NoOctetList [.type "ValueError", .type "Exception", .type "BaseException", .type "object"]
  S_NoOctetList : HeirC K C_NoOctetList C_FieldError
  C_NoOctets : Addr
  E_NoOctets : ErrC K mg "NoOctets" "place" C_NoOctets f_NoOctets_init
  S_NoOctets : HeirC K C_NoOctets C_FieldError
  C_Reader : Addr
  cl_Reader : Cls K C_Reader
  g_Reader : mg "Reader" = some (.ref C_Reader)
  M_Reader : Mk K C_Reader f_Reader_init
  nA_Reader_octets : NoAttr K C_Reader "octets"
  nA_Reader_place : NoAttr K C_Reader "place"
  m_Reader_at_end : Meth K C_Reader "at_end" f_Reader_at_end
  m_Reader_look : Meth K C_Reader "look" f_Reader_look
  m_Reader_accept : Meth K C_Reader "accept" f_Reader_accept
  m_Reader_finish : Meth K C_Reader "finish" f_Reader_finish
  m_Reader_take_number : Meth K C_Reader "take_number" f_Reader_take_number
  m_Reader_take_rest : Meth K C_Reader "take_rest" f_Reader_take_rest
  m_Reader_take_string : Meth K C_Reader "take_string" f_Reader_take_string
  m_Reader_take_name : Meth K C_Reader "take_name" f_Reader_take_name
  m_Reader_take_value : Meth K C_Reader "take_value" f_Reader_take_value
  U_NoOctets_NoOctets : PySem.W.subIn K (.ref C_NoOctets) (.ref C_NoOctets) = some true
structure Txt (K : PySem.W.Frag) (mg : Str → Option Value) extends Txt_5 K mg where
  U_NoOctets_NoOctetList : PySem.W.subIn K (.ref C_NoOctets) (.ref C_NoOctetList) = some false
  U_NoOctetList_NoOctets : PySem.W.subIn K (.ref C_NoOctetList) (.ref C_NoOctets) = some false
  U_NoOctetList_NoOctetList : PySem.W.subIn K (.ref C_NoOctetList) (.ref C_NoOctetList) = some true
  X_NoOctetList : IsC K C_NoOctetList
  X_NoOctets : IsC K C_NoOctets
  t_NUMBER_MOST : Tok
  g_NUMBER_MOST : mg "NUMBER_MOST" = some (.int 9999 t_NUMBER_MOST)
  t_STREAM_MOST : Tok
  g_STREAM_MOST : mg "STREAM_MOST" = some (.int 20 t_STREAM_MOST)
  t_NAME_MOST : Tok
  g_NAME_MOST : mg "NAME_MOST" = some (.int 20 t_NAME_MOST)
  t_VALUE_MOST : Tok
  g_VALUE_MOST : mg "VALUE_MOST" = some (.int 40 t_VALUE_MOST)
  t_VALUE_PREFIX : Tok
  g_VALUE_PREFIX : mg "VALUE_PREFIX" = some (.int 7 t_VALUE_PREFIX)
  a_CHARACTERS : Addr
  g_CHARACTERS : mg "CHARACTERS" = some (.ref a_CHARACTERS)
  CHARACTERS_d : IDict K a_CHARACTERS chars
  z_all : mg "all" = none
  z_bool : mg "bool" = none
  z_enumerate : mg "enumerate" = none
  z_int : mg "int" = none
  z_isinstance : mg "isinstance" = none
  z_len : mg "len" = none
  z_list : mg "list" = none
  z_max : mg "max" = none
  z_min : mg "min" = none
  z_range : mg "range" = none
  z_repr : mg "repr" = none
  z_str : mg "str" = none
  z_tuple : mg "tuple" = none
  z_zip : mg "zip" = none
theorem sc_NoOctets_init : FnScope ["self", "place"] ["self", "place"] (defScope s_NoOctets_init) := ⟨rfl, rfl, rfl, by decide +kernel, rfl, by decide +kernel, by decide +kernel⟩
theorem sc_is_between : FnScope ["thing", "least", "most"] ["thing", "least", "most"] (defScope s_is_between) := ⟨rfl, rfl, rfl, by decide +kernel, rfl, by decide +kernel, by decide +kernel⟩
theorem sc_are_octets : FnScope ["thing", "octet"] ["thing"] (defScope s_are_octets) := ⟨rfl, rfl, rfl, by decide +kernel, rfl, by decide +kernel, by decide +kernel⟩
theorem sc_check_octets : FnScope ["octets"] ["octets"] (defScope s_check_octets) := ⟨rfl, rfl, rfl, by decide +kernel, rfl, by decide +kernel, by decide +kernel⟩
theorem sc_prefix_bits : FnScope ["prefix"] ["prefix"] (defScope s_prefix_bits) := ⟨rfl, rfl, rfl, by decide +kernel, rfl, by decide +kernel, by decide +kernel⟩
theorem sc_Reader_init : FnScope ["self", "octets"] ["self", "octets"] (defScope s_Reader_init) := ⟨rfl, rfl, rfl, by decide +kernel, rfl, by decide +kernel, by decide +kernel⟩
theorem sc_Reader_at_end : FnScope ["self"] ["self"] (defScope s_Reader_at_end) := ⟨rfl, rfl, rfl, by decide +kernel, rfl, by decide +kernel, by decide +kernel⟩
theorem sc_Reader_look : FnScope ["self"] ["self"] (defScope s_Reader_look) := ⟨rfl, rfl, rfl, by decide +kernel, rfl, by decide +kernel, by decide +kernel⟩
theorem sc_Reader_accept : FnScope ["self", "fits"] ["self", "fits"] (defScope s_Reader_accept) := ⟨rfl, rfl, rfl, by decide +kernel, rfl, by decide +kernel, by decide +kernel⟩
theorem sc_Reader_finish : FnScope ["self"] ["self"] (defScope s_Reader_finish) := ⟨rfl, rfl, rfl, by decide +kernel, rfl, by decide +kernel, by decide +kernel⟩
theorem sc_Reader_take_number : FnScope ["self", "prefix", "mark", "least", "most", "bits", "number"] ["self", "prefix", "mark", "least", "most"] (defScope s_Reader_take_number) := ⟨rfl, rfl, rfl, by decide +kernel, rfl, by decide +kernel, by decide +kernel⟩
theorem sc_Reader_take_rest : FnScope ["self", "most", "rest", "weight", "last"] ["self", "most"] (defScope s_Reader_take_rest) := ⟨rfl, rfl, rfl, by decide +kernel, rfl, by decide +kernel, by decide +kernel⟩
theorem sc_Reader_take_string : FnScope ["self", "prefix", "mark", "least", "most", "length", "text", "_", "octet"] ["self", "prefix", "mark", "least", "most"] (defScope s_Reader_take_string) := ⟨rfl, rfl, rfl, by decide +kernel, rfl, by decide +kernel, by decide +kernel⟩
theorem sc_Reader_take_name : FnScope ["self", "prefix", "mark"] ["self", "prefix", "mark"] (defScope s_Reader_take_name) := ⟨rfl, rfl, rfl, by decide +kernel, rfl, by decide +kernel, by decide +kernel⟩
theorem sc_Reader_take_value : FnScope ["self"] ["self"] (defScope s_Reader_take_value) := ⟨rfl, rfl, rfl, by decide +kernel, rfl, by decide +kernel, by decide +kernel⟩
theorem sc_read_instruction : FnScope ["octets", "reader", "instruction"] ["octets"] (defScope s_read_instruction) := ⟨rfl, rfl, rfl, by decide +kernel, rfl, by decide +kernel, by decide +kernel⟩
theorem sc_take_instruction : FnScope ["reader", "first", "kind", "source"] ["reader"] (defScope s_take_instruction) := ⟨rfl, rfl, rfl, by decide +kernel, rfl, by decide +kernel, by decide +kernel⟩
theorem sc_take_source : FnScope ["reader", "first"] ["reader"] (defScope s_take_source) := ⟨rfl, rfl, rfl, by decide +kernel, rfl, by decide +kernel, by decide +kernel⟩
theorem sc_read_answer : FnScope ["octets", "reader", "answer"] ["octets"] (defScope s_read_answer) := ⟨rfl, rfl, rfl, by decide +kernel, rfl, by decide +kernel, by decide +kernel⟩
theorem sc_take_answer : FnScope ["reader", "first"] ["reader"] (defScope s_take_answer) := ⟨rfl, rfl, rfl, by decide +kernel, rfl, by decide +kernel, by decide +kernel⟩
theorem sc_law_open : FnScope ["script", "cells", "k", "cell"] ["script"] (defScope s_law_open) := ⟨rfl, rfl, rfl, by decide +kernel, rfl, by decide +kernel, by decide +kernel⟩
theorem sc_law_spread : FnScope ["cell", "at", "primes", "one", "two", "three"] ["cell", "at"] (defScope s_law_spread) := ⟨rfl, rfl, rfl, by decide +kernel, rfl, by decide +kernel, by decide +kernel⟩
theorem sc_law_take : FnScope ["pen", "amount", "at", "cell", "found"] ["pen", "amount"] (defScope s_law_take) := ⟨rfl, rfl, rfl, by decide +kernel, rfl, by decide +kernel, by decide +kernel⟩
theorem sc_law_same : FnScope ["found", "due", "one", "other"] ["found", "due"] (defScope s_law_same) := ⟨rfl, rfl, rfl, by decide +kernel, rfl, by decide +kernel, by decide +kernel⟩
theorem sc_law_one_of : FnScope ["pen", "some"] ["pen", "some"] (defScope s_law_one_of) := ⟨rfl, rfl, rfl, by decide +kernel, rfl, by decide +kernel, by decide +kernel⟩
theorem sc_law_signs : FnScope [] [] (defScope s_law_signs) := ⟨rfl, rfl, rfl, by decide +kernel, rfl, by decide +kernel, by decide +kernel⟩
theorem sc_law_draw_text : FnScope ["pen", "least", "most", "size", "k"] ["pen", "least", "most"] (defScope s_law_draw_text) := ⟨rfl, rfl, rfl, by decide +kernel, rfl, by decide +kernel, by decide +kernel⟩
theorem sc_law_draw_number : FnScope ["pen", "near", "some"] ["pen"] (defScope s_law_draw_number) := ⟨rfl, rfl, rfl, by decide +kernel, rfl, by decide +kernel, by decide +kernel⟩
theorem sc_law_number_octets : FnScope ["number", "prefix", "mark", "full", "bit", "found", "rest"] ["number", "prefix", "mark"] (defScope s_law_number_octets) := ⟨rfl, rfl, rfl, by decide +kernel, rfl, by decide +kernel, by decide +kernel⟩
theorem sc_law_code : FnScope ["sign", "first", "row", "k", "one"] ["sign"] (defScope s_law_code) := ⟨rfl, rfl, rfl, by decide +kernel, rfl, by decide +kernel, by decide +kernel⟩
theorem sc_law_text_octets : FnScope ["text", "prefix", "mark", "sign"] ["text", "prefix", "mark"] (defScope s_law_text_octets) := ⟨rfl, rfl, rfl, by decide +kernel, rfl, by decide +kernel, by decide +kernel⟩
theorem sc_law_instruction_octets : FnScope ["one", "word"] ["one"] (defScope s_law_instruction_octets) := ⟨rfl, rfl, rfl, by decide +kernel, rfl, by decide +kernel, by decide +kernel⟩
theorem sc_law_answer_octets : FnScope ["one"] ["one"] (defScope s_law_answer_octets) := ⟨rfl, rfl, rfl, by decide +kernel, rfl, by decide +kernel, by decide +kernel⟩
theorem sc_law_draw_instruction : FnScope ["pen", "word"] ["pen"] (defScope s_law_draw_instruction) := ⟨rfl, rfl, rfl, by decide +kernel, rfl, by decide +kernel, by decide +kernel⟩
theorem sc_law_draw_answer : FnScope ["pen", "word"] ["pen"] (defScope s_law_draw_answer) := ⟨rfl, rfl, rfl, by decide +kernel, rfl, by decide +kernel, by decide +kernel⟩
theorem sc_law_read_number : FnScope ["octets", "place", "prefix", "least", "most", "full", "bit", "first", "total", "weight", "at", "low"] ["octets", "place", "prefix", "least", "most"] (defScope s_law_read_number) := ⟨rfl, rfl, rfl, by decide +kernel, rfl, by decide +kernel, by decide +kernel⟩
theorem sc_law_read_text : FnScope ["octets", "place", "prefix", "least", "most", "told", "text", "at", "again", "found", "sign"] ["octets", "place", "prefix", "least", "most"] (defScope s_law_read_text) := ⟨rfl, rfl, rfl, by decide +kernel, rfl, by decide +kernel, by decide +kernel⟩
theorem sc_law_read_pair : FnScope ["octets", "place", "front", "head", "word", "kind", "prefix", "least", "most", "told", "value", "number"] ["octets", "place", "front", "head"] (defScope s_law_read_pair) := ⟨rfl, rfl, rfl, by decide +kernel, rfl, by decide +kernel, by decide +kernel⟩
theorem sc_law_read_single : FnScope ["octets", "place", "front", "head", "word", "kind", "prefix", "least", "most", "told", "number"] ["octets", "place", "front", "head"] (defScope s_law_read_single) := ⟨rfl, rfl, rfl, by decide +kernel, rfl, by decide +kernel, by decide +kernel⟩
theorem sc_law_read_instruction : FnScope ["octets", "first"] ["octets"] (defScope s_law_read_instruction) := ⟨rfl, rfl, rfl, by decide +kernel, rfl, by decide +kernel, by decide +kernel⟩
theorem sc_law_read_answer : FnScope ["octets", "first", "front"] ["octets"] (defScope s_law_read_answer) := ⟨rfl, rfl, rfl, by decide +kernel, rfl, by decide +kernel, by decide +kernel⟩
theorem sc_law_whole : FnScope ["told", "octets"] ["told", "octets"] (defScope s_law_whole) := ⟨rfl, rfl, rfl, by decide +kernel, rfl, by decide +kernel, by decide +kernel⟩
theorem sc_law_bent_octets : FnScope ["pen", "octets", "found", "way", "spot", "odd", "again"] ["pen", "octets"] (defScope s_law_bent_octets) := ⟨rfl, rfl, rfl, by decide +kernel, rfl, by decide +kernel, by decide +kernel⟩
theorem sc_law_told : FnScope ["read", "octets", "caught", "found", "e"] ["read", "octets"] (defScope s_law_told) := ⟨rfl, rfl, rfl, by decide +kernel, rfl, by decide +kernel, by decide +kernel⟩
theorem sc_law : FnScope ["script", "pen", "turn", "octets", "answer", "some", "again", "seen", "due", "told", "odd", "good", "spot", "bent", "wrong"] ["script"] (defScope s_law) := ⟨rfl, rfl, rfl, by decide +kernel, rfl, by decide +kernel, by decide +kernel⟩
section
variable {P : Program} {w : World} {K : PySem.W.Frag} {mg : Str → Option Value} {base : Heap}
theorem ok_is_between (T : Txt K mg) : FnOk P w K mg base CX0 1 T.f_is_between T.d_is_between ["thing", "least", "most"] (sp_is_between K) := by
  refine T.F_is_between.ok sc_is_between (fun vs H Q E h => ?_) (fun cdv A outer s H vs Q E hr h => ?_)
  · obtain ⟨v, t, a, b, rfl, _⟩ := h
    rfl
  · obtain ⟨v, t, a, b, rfl, k, q⟩ := h
    refine ⟨_, (pss_one (ps_ret (pe_and (pe_callB call_isi rfl T.z_isinstance boot_isinstance (pa_cons (pv 0) (pa_cons (pe_bltn (v := .ty "int") rfl T.z_int boot_int rfl) pa_nil))) (pe_and (pe_not (pe_callB call_isi rfl T.z_isinstance boot_isinstance (pa_cons (pv 0) (pa_cons (pe_bltn (v := .ty "bool") rfl T.z_bool boot_bool rfl) pa_nil)))) (pe_one (pe_chain op_le op_le (pv 1) (pv 0) (pv 2))))))), ?_⟩
    refine ⟨_, rfl, _, _, _, _, _, rfl, .ty _, k.ty, k.kit, _, rfl, ifb (fun e => ?_) (fun e => ?_)⟩
    · refine ⟨_, rfl, _, _, _, _, _, rfl, .ty _, k.ty, k.kit, _, rfl, _, rfl, ifb (fun e2 => ?_) (fun e2 => ?_)⟩
      · have ei : t = "int" := by
          cases k <;> first | rfl | (exfalso; revert e e2; decide)
        cases k <;> first | (exact absurd ei (by decide)) | skip
        rename_i i
        refine ⟨_, rfl, _, rfl, _, _, rfl, rfl, _, rfl, ifb (fun e3 => ?_) (fun e3 => ?_)⟩
        · exact ⟨_, rfl, _, _, rfl, rfl, Q_bl q (by show (decide _ && decide _) = _; rw [e3]; rfl)⟩
        · exact Q_bl q (by show (decide _ && decide _) = _; rw [e3]; rfl)
      · refine Q_bl q ?_
        cases k <;> first | rfl | (exfalso; revert e e2; decide)
    · refine Q_bl q ?_
      cases k <;> first | rfl | (exfalso; revert e; decide)

theorem ok_prefix_bits (T : Txt K mg) : FnOk P w K mg base CX0 1 T.f_prefix_bits T.d_prefix_bits ["prefix"] sp_prefix_bits := by
  refine T.F_prefix_bits.ok sc_prefix_bits (fun vs H Q E h => ?_) (fun cdv A outer s H vs Q E hr h => ?_)
  · obtain ⟨b, rfl, _⟩ := h
    rfl
  · obtain ⟨b, rfl, hb, q⟩ := h
    refine ⟨_, (pss_one (ps_ret (pe_op op_sub (pe_op op_shl pe_int (pv 0)) pe_int))), ?_⟩
    refine ⟨_, rfl, _, _, rfl, rfl, ⟨by omega, by omega, by decide⟩, _, _, rfl, rfl, ?_⟩
    refine Q_int q ?_
    rw [Int.toNat_natCast, Int.one_mul]


theorem ok_law_number_octets (T : Txt K mg) : FnOk P w K mg base CX0 1 T.f_law_number_octets T.d_law_number_octets ["number", "prefix", "mark"] sp_law_number_octets := by
  refine T.F_law_number_octets.ok sc_law_number_octets (fun vs H Q E h => ?_) (fun cdv A outer s H vs Q E hr h => ?_)
  · obtain ⟨n, b, m, rfl, _⟩ := h
    rfl
  · obtain ⟨n, b, m, rfl, hn, hb8, q⟩ := h
    refine ⟨_, (pss_cons (ps_set (i := 3) sc_law_number_octets.nd rfl (Or.inl rfl) pe_int)
      (pss_cons (ps_for PassesOwn.never rfl (pi_range1 rfl T.z_range (pa_cons (pv 1) pa_nil)) (pg_name (i := 4) sc_law_number_octets.nd rfl (Or.inl rfl))
        (pss_one (ps_set (i := 3) sc_law_number_octets.nd rfl (Or.inl rfl) (pe_op op_mul (pv 3) pe_int))))
      (pss_cons (ps_if (pt_cmpR op_lt (pv 0) (pe_op op_sub (pv 3) pe_int) (nomark _)) (pss_one (ps_ret (pe_lst (pa_cons (pe_op op_add (pv 2) (pv 0)) pa_nil)))) pss_nil)
      (pss_cons (ps_par (i := 5) (j := 6) rfl sc_law_number_octets.nd rfl rfl (by decide) rfl rfl (pa_cons (pe_lst (pa_cons (pe_op op_sub (pe_op op_add (pv 2) (pv 3)) pe_int) pa_nil)) (pa_cons (pe_op op_add (pe_op op_sub (pv 0) (pv 3)) pe_int) pa_nil)) (by rfl))
      (pss_cons (ps_while PassesOwn.never (pt_cmpR op_ge (pv 6) pe_int (nomark _))
        (pss_cons (ps_expr (pe_bm PySem.F.plainAttrs_list PySem.F.slot_list_append PySem.F.type_list_append mt_append (pv 5) (pa_cons (pe_op op_add pe_int (pe_op op_mod (pv 6) pe_int)) pa_nil)))
      (pss_one (ps_set (i := 6) sc_law_number_octets.nd rfl (Or.inl rfl) (pe_op op_fdiv (pv 6) pe_int)))))
      (pss_one (ps_ret (pe_op op_cat (pv 5) (pe_lst (pa_cons (pv 6) pa_nil)))))))))), ?_⟩
    have hp := pow_pos2 b
    have hp8 := pow_le8 hb8
    have eb := bits_cast b
    refine ⟨_, rfl, _, rfl, by omega, by omega, ?_⟩
    refine for_range (lo := 0) (n := ((b : Nat) : Int).toNat) (fun i σ H' => ∃ z : Option V, σ = [some (.int (n : Nat)), some (.int (b : Nat)), some (.int (m : Nat)), some (.int (2 ^ i)), z, none, none] ∧ H = H') ⟨none, rfl, rfl⟩ ?_ ?_
    · rintro i σ H' hi ⟨z, rfl, rfl⟩
      refine ⟨_, rfl, _, _, rfl, rfl, .inr ⟨by decide, by decide⟩, ?_⟩
      exact ⟨_, by rw [Int.pow_succ]; rfl, rfl⟩
    · rintro σ H' ⟨z, rfl, rfl⟩
      rw [Int.toNat_natCast]
      refine ⟨_, rfl, _, rfl, _, _, rfl, rfl, _, _, rfl, rfl, _, rfl, ?_⟩
      by_cases c : n < 2 ^ b - 1
      · refine ifT (decide_eq_true (by rw [eb]; omega)) ?_
        refine ⟨_, rfl, _, rfl, _, _, rfl, rfl, (by show 1 ≤ sizeLine; rw [sizeLine_eq]; omega), fun p hp' => ?_⟩
        refine q p _ hp' (Same.new hp') ?_
        rw [upd_same]
        unfold numOct
        rw [if_pos c]
        rfl
      · refine ifF (decide_eq_false (by rw [eb]; omega)) ?_
        refine ⟨_, rfl, _, rfl, _, _, rfl, rfl, _, _, rfl, rfl, (by show 1 ≤ sizeLine; rw [sizeLine_eq]; omega), fun p hp' => ?_⟩
        refine ⟨_, rfl, _, rfl, _, _, rfl, rfl, _, _, rfl, rfl, _, _, rfl, ?_⟩
        have eN : numOct n b m = [((m + (2 ^ b - 1) : Nat) : Int)] ++ restOct (n - (2 ^ b - 1)) := by
          unfold numOct
          rw [if_neg c]
          rfl
        have hl := numOct_len n b m
        refine ⟨fun k σ H' => ∃ acc : List Int, σ = [some (.int (n : Nat)), some (.int (b : Nat)), some (.int (m : Nat)), some (.int (2 ^ b)), z, some (.ref p), some (.int (k : Nat))] ∧ Same H H' ∧ H' p = some (.lst (acc.map V.int)) ∧ acc ++ restOct k = numOct n b m,
          ⟨n - (2 ^ b - 1), [((m + (2 ^ b - 1) : Nat) : Int)], ?_, Same.new hp', ?_, eN.symm⟩, ?_⟩
        · have e : ((n : Int) - 2 ^ b + 1) = ((n - (2 ^ b - 1) : Nat) : Int) := by omega
          rw [← e]
          rfl
        · have e : ((m : Int) + 2 ^ b - 1) = ((m + (2 ^ b - 1) : Nat) : Int) := by omega
          rw [upd_same, ← e]
          rfl
        · rintro k σ H' ⟨acc, rfl, s1, hl', ha⟩
          refine ⟨_, rfl, _, _, rfl, rfl, _, rfl, ?_⟩
          by_cases ck : k < 128
          · refine ifF (decide_eq_false (by omega)) ?_
            refine ⟨_, rfl, _, rfl, (by show 1 ≤ sizeLine; rw [sizeLine_eq]; omega), fun r hr' => ?_⟩
            have npr : p ≠ r := ne_of_none hl' hr'
            refine ⟨p, r, _, _, rfl, rfl, by rw [upd_ne npr]; exact hl', upd_same, ?_, fun t ht => ?_⟩
            · rw [List.length_map, sizeLine_eq]
              have : acc.length ≤ (numOct n b m).length := by rw [← ha]; simp
              simp only [List.length_cons, List.length_nil]
              omega
            · have s2 : Same H (upd H' r (.lst [.int (k : Nat)])) := s1.put (s1.free hr')
              refine q t _ (s2.free ht) (s2.put (s2.free ht)) ?_
              rw [upd_same, ← ha, restOct_lt ck, List.map_append]
              rfl
          · refine ifT (decide_eq_true (by omega)) ?_
            refine ⟨fun σ' H'' => ∃ acc : List Int, σ' = [some (.int (n : Nat)), some (.int (b : Nat)), some (.int (m : Nat)), some (.int (2 ^ b)), z, some (.ref p), some (.int ((k / 128 : Nat) : Int))] ∧ Same H H'' ∧ H'' p = some (.lst (acc.map V.int)) ∧ acc ++ restOct (k / 128) = numOct n b m,
              fun σ' H'' h => ⟨k / 128, by omega, h⟩, ?_⟩
            refine ⟨_, rfl, .inl ⟨rfl, _, SqL.of hl'⟩, _, rfl, _, _, rfl, rfl, (by show (0 : Int) < 128; decide), _, _, rfl, rfl, p, _, _, rfl, rfl, hl', ?_, ?_⟩
            · rw [List.length_map, sizeLine_eq]
              have : acc.length ≤ (numOct n b m).length := by rw [← ha]; simp
              omega
            · refine ⟨_, rfl, _, _, rfl, rfl, ⟨by decide, by decide⟩, ?_⟩
              refine ⟨acc ++ [128 + (k : Int) % 128], ?_, s1.put hp', ?_, ?_⟩
              · have e : ((k : Int) / 128) = ((k / 128 : Nat) : Int) := by omega
                rw [← e]
                rfl
              · rw [upd_same, List.map_append]
                rfl
              · rw [← ha, restOct_ge ck, List.append_assoc]
                rfl

/-- one row of _law_code's table walked -/
def t_code_in (K : PySem.W.Frag) : L2.TS := tFor (iEnumS (tCons (tVar 2) tNil)) (gTup K 2 (gCons (gName 3) (gCons (gName 4) gNil))) (tIfS (tTest (tOp rEq (tVar 4) (tVar 0))) (tRet (tOp (rI0 fun i j => .int (i + j)) (tVar 1) (tVar 3))) tNext)
theorem code_in {c : Nat} {first : Nat} {row : Str} {k one : Option V} {D : Ends} {H : Hp} (hrow : ∀ i r, row.cps[i]? = some r → r = first + i)
    (hyes : ∀ H', Same H H' → c ∈ row.cps.toList → D.rt (.int (c : Nat)) H') (hno : ∀ k one H', Same H H' → c ∉ row.cps.toList → D.nx [some (.str ⟨#[c]⟩), some (.int (first : Nat)), some (.str row), k, one] H') :
    t_code_in K D [some (.str ⟨#[c]⟩), some (.int (first : Nat)), some (.str row), k, one] H := by
  refine ⟨_, rfl, row, rfl, ?_⟩
  refine for_it walk_enumS (fun i σ H' => ∃ k one : Option V, σ = [some (.str ⟨#[c]⟩), some (.int (first : Nat)), some (.str row), k, one] ∧ Same H H' ∧ c ∉ row.cps.toList.take i) ⟨k, one, rfl, Same.refl _, by simp⟩ (fun _ _ _ _ _ => True.intro) ?_ ?_
  · rintro i x σ H' H'' hi ⟨k', one', rfl, s1, hc⟩ ⟨tt, r, rfl, htt, rfl, hr⟩
    refine ⟨tt, _, rfl, SqT.of upd_same, rfl, _, _, rfl, _, _, rfl, rfl, ?_⟩
    refine ⟨_, rfl, _, rfl, rfl, _, rfl, ?_⟩
    have s2 := s1.put (o := .tup [.int (i : Nat), .str ⟨#[r]⟩]) (s1.free htt)
    have hr' : row.cps.toList[i]? = some r := cps_at hr
    by_cases e : r = c
    · subst e
      refine ifT (decide_eq_true rfl) ?_
      refine ⟨_, rfl, _, rfl, _, _, rfl, rfl, ?_⟩
      have e1 : ((first : Nat) : Int) + (i : Nat) = ((r : Nat) : Int) := by
        have := hrow i r hr
        omega
      show D.rt (.int (((first : Nat) : Int) + (i : Nat))) _
      rw [e1]
      exact hyes _ s2 (List.mem_of_getElem? hr')
    · refine ifF (decide_eq_false fun q => e ?_) ⟨_, _, rfl, s2, ?_⟩
      · have : (⟨#[r]⟩ : Str) = ⟨#[c]⟩ := by injection q
        have h2 : #[r] = #[c] := congrArg Str.cps this
        simpa using h2
      · have e2 : row.cps.toList.take (i + 1) = row.cps.toList.take i ++ [r] := by
          rw [List.take_add_one, hr']; rfl
        rw [e2]
        intro hm
        rcases List.mem_append.mp hm with h | h
        · exact hc h
        · exact e (List.mem_singleton.mp h).symm
  · rintro σ H' ⟨k', one', rfl, s1, hc⟩
    refine hno _ _ _ s1 ?_
    rwa [List.take_of_length_le (by simp)] at hc
theorem ok_law_code (T : Txt K mg) : FnOk P w K mg base CX0 1 T.f_law_code T.d_law_code ["sign"] sp_law_code := by
  refine T.F_law_code.ok sc_law_code (fun vs H Q E h => ?_) (fun cdv A outer s H vs Q E hr h => ?_)
  · obtain ⟨c, rfl, _⟩ := h
    rfl
  · obtain ⟨c, rfl, q⟩ := h
    refine ⟨_, (pss_cons (ps_for PassesOwn.never rfl (pi_list (pe_lst (pa_cons (pe_tup (pa_cons pe_int (pa_cons pe_str pa_nil))) (pa_cons (pe_tup (pa_cons pe_int (pa_cons pe_str pa_nil))) (pa_cons (pe_tup (pa_cons pe_int (pa_cons pe_str pa_nil))) (pa_cons (pe_tup (pa_cons pe_int (pa_cons pe_str pa_nil))) pa_nil)))))) (pg_tup rfl (pgs_cons (pg_name (i := 1) sc_law_code.nd rfl (Or.inl rfl)) (pgs_cons (pg_name (i := 2) sc_law_code.nd rfl (Or.inl rfl)) pgs_nil)))
        (pss_one (ps_for PassesOwn.never rfl (pi_enumS rfl T.z_enumerate (pa_cons (pv 2) pa_nil)) (pg_tup rfl (pgs_cons (pg_name (i := 3) sc_law_code.nd rfl (Or.inl rfl)) (pgs_cons (pg_name (i := 4) sc_law_code.nd rfl (Or.inl rfl)) pgs_nil)))
        (pss_one (ps_if (pt_cmpR op_eq (pv 4) (pv 0) (nomark _)) (pss_one (ps_ret (pe_op op_add (pv 1) (pv 3)))) pss_nil)))))
      (pss_one (ps_ret pe_int))), ?_⟩
    refine ⟨by show 2 ≤ sizeLine; decide, fun t1 h1 => ?_⟩
    refine ⟨by show 2 ≤ sizeLine; decide, fun t2 h2 => ?_⟩
    refine ⟨by show 2 ≤ sizeLine; decide, fun t3 h3 => ?_⟩
    refine ⟨by show 2 ≤ sizeLine; decide, fun t4 h4 => ?_⟩
    refine ⟨by show 4 ≤ sizeLine; decide, fun l hl => ?_⟩
    have n12 : t1 ≠ t2 := ne_of_none upd_same h2
    have n13 : t1 ≠ t3 := ne_of_none (by rw [upd_ne n12]; exact upd_same) h3
    have n23 : t2 ≠ t3 := ne_of_none upd_same h3
    have n14 : t1 ≠ t4 := ne_of_none (by rw [upd_ne n13, upd_ne n12]; exact upd_same) h4
    have n24 : t2 ≠ t4 := ne_of_none (by rw [upd_ne n23]; exact upd_same) h4
    have n34 : t3 ≠ t4 := ne_of_none upd_same h4
    have n1l : t1 ≠ l := ne_of_none (by rw [upd_ne n14, upd_ne n13, upd_ne n12]; exact upd_same) hl
    have n2l : t2 ≠ l := ne_of_none (by rw [upd_ne n24, upd_ne n23]; exact upd_same) hl
    have n3l : t3 ≠ l := ne_of_none (by rw [upd_ne n34]; exact upd_same) hl
    have n4l : t4 ≠ l := ne_of_none upd_same hl
    have s0 : Same H _ := (((((Same.new h1).trans (Same.new h2)).trans (Same.new h3)).trans (Same.new h4)).trans (Same.new (o := .lst [.ref t1, .ref t2, .ref t3, .ref t4]) hl))
    generalize hH : upd (upd (upd (upd (upd H t1 (.tup [.int 32, .str " "])) t2 (.tup [.int 45, .str "-./0123456789:;"])) t3 (.tup [.int 61, .str "="])) t4 (.tup [.int 97, .str "abcdefghijklmnopqrstuvwxyz"])) l (.lst [.ref t1, .ref t2, .ref t3, .ref t4]) = H5 at s0 ⊢
    have g1 : H5 t1 = some (.tup [.int 32, .str " "]) := by rw [← hH, upd_ne n1l, upd_ne n14, upd_ne n13, upd_ne n12]; exact upd_same
    have g2 : H5 t2 = some (.tup [.int 45, .str "-./0123456789:;"]) := by rw [← hH, upd_ne n2l, upd_ne n24, upd_ne n23]; exact upd_same
    have g3 : H5 t3 = some (.tup [.int 61, .str "="]) := by rw [← hH, upd_ne n3l, upd_ne n34]; exact upd_same
    have g4 : H5 t4 = some (.tup [.int 97, .str "abcdefghijklmnopqrstuvwxyz"]) := by rw [← hH, upd_ne n4l]; exact upd_same
    have gl : H5 l = some (.lst [.ref t1, .ref t2, .ref t3, .ref t4]) := by rw [← hH]; exact upd_same
    clear hH
    refine ⟨l, rfl, ⟨_, SqL.of gl⟩, ?_⟩
    refine for_list (K := K) (a := l) (xs := [.ref t1, .ref t2, .ref t3, .ref t4]) (fun i σ H' => ∃ a b k one : Option V, σ = [some (.str ⟨#[c]⟩), a, b, k, one] ∧ Same H5 H' ∧ c ∉ (codeRows.take i).flatten) ⟨_, _, _, _, rfl, Same.refl _, by simp⟩ (fun i σ H' _ ⟨_, _, _, _, _, s1, _⟩ => s1.seq (SqL.of gl)) ?_ ?_
    · rintro i x σ H' hi ⟨a, b, k, one, rfl, s1, hc⟩
      have yes : ∀ H'', Same H' H'' → isChar c = true → Q (.int (c : Nat)) H'' := fun H'' s2 e => by
        have := q H'' ((s0.trans s1).trans s2)
        unfold codeOf at this
        rw [e] at this
        exact this
      match i, hi with
      | 0, hi =>
        cases hi
        refine ⟨t1, _, rfl, SqT.of (s1 _ _ g1), rfl, _, _, rfl, _, _, rfl, rfl, ?_⟩
        refine code_in (first := 32) (row_ok (by decide +kernel)) (fun H'' s2 hm => yes H'' s2 ?_) fun k' one' H'' s2 hm => ⟨_, _, _, _, rfl, s1.trans s2, ?_⟩
        · exact code_yes 0 rfl hm
        · exact code_no 0 rfl hc hm
      | 1, hi =>
        cases hi
        refine ⟨t2, _, rfl, SqT.of (s1 _ _ g2), rfl, _, _, rfl, _, _, rfl, rfl, ?_⟩
        refine code_in (first := 45) (row_ok (by decide +kernel)) (fun H'' s2 hm => yes H'' s2 ?_) fun k' one' H'' s2 hm => ⟨_, _, _, _, rfl, s1.trans s2, ?_⟩
        · exact code_yes 1 rfl hm
        · exact code_no 1 rfl hc hm
      | 2, hi =>
        cases hi
        refine ⟨t3, _, rfl, SqT.of (s1 _ _ g3), rfl, _, _, rfl, _, _, rfl, rfl, ?_⟩
        refine code_in (first := 61) (row_ok (by decide +kernel)) (fun H'' s2 hm => yes H'' s2 ?_) fun k' one' H'' s2 hm => ⟨_, _, _, _, rfl, s1.trans s2, ?_⟩
        · exact code_yes 2 rfl hm
        · exact code_no 2 rfl hc hm
      | 3, hi =>
        cases hi
        refine ⟨t4, _, rfl, SqT.of (s1 _ _ g4), rfl, _, _, rfl, _, _, rfl, rfl, ?_⟩
        refine code_in (first := 97) (row_ok (by decide +kernel)) (fun H'' s2 hm => yes H'' s2 ?_) fun k' one' H'' s2 hm => ⟨_, _, _, _, rfl, s1.trans s2, ?_⟩
        · exact code_yes 3 rfl hm
        · exact code_no 3 rfl hc hm
    · rintro σ H' ⟨a, b, k, one, rfl, s1, hc⟩
      have := q H' (s0.trans s1)
      unfold codeOf at this
      rw [code_none hc] at this
      exact this
theorem ok_law_text_octets (T : Txt K mg) : FnOk P w K mg base CX0 2 T.f_law_text_octets T.d_law_text_octets ["text", "prefix", "mark"] sp_law_text_octets := by
  refine T.F_law_text_octets.ok sc_law_text_octets (fun vs H Q E h => ?_) (fun cdv A outer s H vs Q E hr h => ?_)
  · obtain ⟨x, b, m, rfl, _⟩ := h
    rfl
  · obtain ⟨x, b, m, rfl, hl, hb, q⟩ := h
    refine ⟨_, (pss_one (ps_ret (pe_op op_cat (pe_call (ok_law_number_octets T) (hr.mono (by decide)) rfl T.g_law_number_octets T.F_law_number_octets.kp T.b_law_number_octets .nil pass0 (pa_cons (pe_callB call_len rfl T.z_len boot_len (pa_cons (pv 0) pa_nil)) (pa_cons (pv 1) (pa_cons (pv 2) pa_nil)))) (pe_lc (own := [("sign", 3)]) (g := (gName 3)) (tt := tYes)  rfl sc_law_text_octets.nd (pi_str (pv 0)) (blkOk_by (own := [("sign", 3)]) (N := ["text", "prefix", "mark", "sign"]) (sc := defScope s_law_text_octets) (by decide +kernel)) (fun _ _ _ _ _ => (pg_name (i := 3) sc_law_text_octets.nd rfl (Or.inl rfl))) (fun _ _ _ _ _ => pts_nil) (fun _ _ _ _ _ => (pe_call (ok_law_code T) (hr.mono (by decide)) rfl T.g_law_code T.F_law_code.kp T.b_law_code .nil pass0 (pa_cons (pv 3) pa_nil))))))), ?_⟩
    refine ⟨_, rfl, _, _, rfl, ⟨len100 (by omega), rfl⟩, ?_⟩
    refine ⟨_, rfl, _, rfl, x.length, b, m, rfl, by omega, hb, fun p H2 hp s2 hp2 => ?_⟩
    have hz := numOct_len x.length b m
    refine ⟨_, rfl, _, rfl, fun D hD => ?_⟩
    refine lc_map walk_str (fun i => V.int (codeOf (x.cps.toList.getD i 0))) (by show x.length ≤ 10000000; omega) hD (fun _ _ => True.intro) ?_ ?_
    · rintro i y H' H'' Q' Z hi s3 ⟨rfl, c, hc, rfl⟩ q'
      refine ⟨rfl, yesI ?_⟩
      refine ⟨_, rfl, c, rfl, fun H4 s4 => ?_⟩
      have e4 : x.cps.toList.getD i 0 = c := getD_of 0 (cps_at hc)
      have := q' H4 s4
      rw [e4] at this
      exact this
    · intro H' s3 hD'
      have e5 : (List.range x.cps.size).map (fun i => V.int (codeOf (x.cps.toList.getD i 0))) = (x.cps.toList.map codeOf).map V.int := by
        rw [List.map_map]
        exact range_map x.cps.toList (fun (c : Nat) => V.int (codeOf c)) 0
      rw [e5] at hD'
      refine ⟨_, _, _, _, rfl, rfl, s3 _ _ hp2, hD', ?_, fun r hr' => ?_⟩
      · rw [List.length_map, List.length_map, List.length_map, ← str_len, sizeLine_eq]
        omega
      · refine q r _ (s2.trans s3 |>.free hr') (s2.trans s3 |>.put (s2.trans s3 |>.free hr')) ?_
        rw [upd_same, List.map_append]


theorem ok_are_octets (T : Txt K mg) : FnOk P w K mg base CX0 2 T.f_are_octets T.d_are_octets ["thing"] (sp_are_octets K) := by
  refine T.F_are_octets.ok sc_are_octets (fun vs H Q E h => ?_) (fun cdv A outer s H vs Q E hr h => ?_)
  · obtain ⟨v, rfl, _⟩ := h
    rfl
  · obtain ⟨v, rfl, h⟩ := h
    refine ⟨_, (pss_one (ps_ret (pe_and (pe_callB call_isi rfl T.z_isinstance boot_isinstance (pa_cons (pv 0) (pa_cons (pe_bltn (v := .ty "list") rfl T.z_list boot_list rfl) pa_nil))) (pe_one (pe_callB (cr_all rfl) rfl T.z_all boot_all (pa_cons (pe_lc (own := [("octet", 1)]) (g := (gName 1)) (tt := tYes)  rfl sc_are_octets.nd (pi_list (pv 0)) (blkOk_by (own := [("octet", 1)]) (N := ["thing", "octet"]) (sc := defScope s_are_octets) (by decide +kernel)) (fun _ _ _ _ _ => (pg_name (i := 1) sc_are_octets.nd rfl (Or.inl rfl))) (fun _ _ _ _ _ => pts_nil) (fun _ _ _ _ _ => (pe_call (ok_is_between T) (hr.mono (by decide)) rfl T.g_is_between T.F_is_between.kp T.b_is_between .nil pass0 (pa_cons (pv 1) (pa_cons pe_int (pa_cons pe_int pa_nil)))))) pa_nil)))))), ?_⟩
    rcases h with ⟨a, xs, rfl, hs, hl, hk, q⟩ | ⟨t, k, ht, q⟩
    · have k : Kind K H (.ref a) "list" := .lst hs
      refine ⟨_, rfl, _, _, _, _, _, rfl, .ty _, k.ty, k.kit, _, rfl, ?_⟩
      refine iteT ?_
      refine ⟨_, rfl, a, rfl, ⟨xs, hs⟩, fun D hD => ?_⟩
      refine lc_map (walk_list (xs := xs)) (fun i => V.bl (btw (xs.getD i .non) 0 255)) (by omega) hD (fun _ s1 => s1.seq hs) ?_ ?_
      · rintro i y H' H'' Q' Z hi s1 ⟨rfl, hy⟩ q'
        refine ⟨rfl, yesI ?_⟩
        obtain ⟨ty, hty⟩ := hk y (List.mem_of_getElem? hy)
        refine ⟨_, rfl, y, ty, 0, 255, rfl, hty.keep s1, ?_⟩
        have := q' H'' (Same.refl _)
        rw [getD_of .non hy] at this
        exact this
      · intro H' s1 hD'
        refine ⟨_, xs.map fun x => btw x 0 255, rfl, .inl (.inl ?_), ?_⟩
        · rw [hD']
          have : (List.range xs.length).map (fun i => V.bl (btw (xs.getD i .non) 0 255)) = (xs.map fun x => btw x 0 255).map V.bl := by
            rw [List.map_map]
            exact range_map xs (fun c => V.bl (btw c 0 255)) .non
          rw [this]
        · refine Q_bl (q H' s1) ?_
          show xs.all _ = _
          simp [List.all_map]
    · refine ⟨_, rfl, _, _, _, _, _, rfl, .ty _, k.ty, k.kit, _, rfl, ifF ?_ (q H (Same.refl _))⟩
      cases k <;> first | rfl | (exfalso; revert ht; decide)
theorem ok_check_octets (T : Txt K mg) : FnOk P w K mg base (CX P w) 3 T.f_check_octets T.d_check_octets ["octets"] (sp_check_octets K T.C_NoOctetList) := by
  refine T.F_check_octets.okX sc_check_octets (fun vs H Q E h => ?_) (fun cdv A outer s H vs Q E hr h => ?_)
  · obtain ⟨v, rfl, _⟩ := h
    rfl
  · obtain ⟨v, rfl, h⟩ := h
    refine ⟨_, (pss_one (ps_if (pt_not (pt_val (pe_call (ok_are_octets T) (hr.mono (by decide)) rfl T.g_are_octets T.F_are_octets.kp T.b_are_octets .nil pass0 (pa_cons (pv 0) pa_nil)))) (pss_one (ps_raise rfl (takes_of rfl rfl rfl rfl) (pmk_own PySem.F.excBase_ValueError T.P_NoOctetList.x_ T.P_NoOctetList.g T.P_NoOctetList.k_ (raises_own T.P_NoOctetList.b_ T.P_NoOctetList.t_) rfl))) pss_nil)), ?_⟩
    rcases h with ⟨a, xs, rfl, hs, hl, hk, q⟩ | ⟨t, k, ht, q⟩
    · refine ⟨_, rfl, _, rfl, .inl ⟨a, xs, rfl, hs, hl, hk, fun H' s1 => ?_⟩⟩
      have q1 := q H' s1
      cases ho : octV xs with
      | true =>
        rw [ho] at q1
        exact ⟨_, rfl, ifF rfl q1⟩
      | false =>
        rw [ho] at q1
        exact ⟨_, rfl, iteT q1⟩
    · refine ⟨_, rfl, _, rfl, .inr ⟨t, k, ht, fun H' s1 => ⟨_, rfl, iteT (q H' s1)⟩⟩⟩

theorem ok_NoOctets_init (T : Txt K mg) : FnOk P w K mg base CX0 1 T.f_NoOctets_init T.d_NoOctets_init ["self", "place"] (sp_err T.C_NoOctets "place") := by
  refine T.F_NoOctets_init.ok sc_NoOctets_init (fun vs H Q E h => ?_) (fun cdv A outer s H vs Q E hr h => ?_)
  · obtain ⟨a, k, rfl, _⟩ := h
    rfl
  · obtain ⟨a, k, rfl, hk, ha, q⟩ := h
    refine ⟨_, (pss_cons (ps_expr (pe_feinit T.B_FieldError rfl (pa_cons (pv 0) (pa_cons (pe_joined (.cons pe_str (.cons (pe_fmt (pv 1)) .nil))) pa_nil))))
      (pss_one (ps_ost (pv 0) (pv 1)))), ?_⟩
    have ht := toString_le hk
    have hz : (Str.empty ++ (("the octets cannot be read at the place " : String) : Str)).length = 39 := by decide +kernel
    refine ⟨_, rfl, _, rfl, by rw [hz, sizeLine_eq]; decide, _, rfl, .inr ⟨k, rfl, log_le hk, _, rfl, ?_, ?_⟩⟩
    · rw [strLen_append, hz, sizeLine_eq]
      omega
    refine ⟨a, T.C_NoOctets, _, rfl, by show 1 ≤ 1000; decide, T.E_NoOctets.ox, ha, ?_⟩
    exact ⟨_, rfl, _, rfl, a, T.C_NoOctets, rfl, T.E_NoOctets.ox, T.E_NoOctets.no, .inl ⟨ha, q⟩⟩
theorem ok_Reader_init (T : Txt K mg) : FnOk P w K mg base CX0 1 T.f_Reader_init T.d_Reader_init ["self", "octets"] (sp_Reader_init K) := by
  refine T.F_Reader_init.ok sc_Reader_init (fun vs H Q E h => ?_) (fun cdv A outer s H vs Q E hr h => ?_)
  · obtain ⟨r, a, C, dx, rfl, _⟩ := h
    rfl
  · obtain ⟨r, a, C, dx, rfl, hr0, c, n1, n2, q⟩ := h
    refine ⟨_, (pss_cons (ps_fld (pv 0) (pv 1) rfl)
      (pss_one (ps_fld (pv 0) pe_int rfl))), ?_⟩
    refine ⟨_, rfl, _, rfl, _, _, _, _, rfl, hr0, c, n1, by decide, ?_⟩
    refine ⟨_, rfl, _, _, _, _, rfl, upd_same, c, n2, by show 1 < 1000; decide, ?_⟩
    refine q _ (fun b hb => ?_) upd_same
    rw [upd_ne hb, upd_ne hb]
theorem ok_Reader_at_end (T : Txt K mg) : FnOk P w K mg base CX0 1 T.f_Reader_at_end T.d_Reader_at_end ["self"] (sp_Reader_at_end K T.C_Reader) := by
  refine T.F_Reader_at_end.ok sc_Reader_at_end (fun vs H Q E h => ?_) (fun cdv A outer s H vs Q E hr h => ?_)
  · obtain ⟨r, a, os, k, rfl, _⟩ := h
    rfl
  · obtain ⟨r, a, os, k, rfl, R, q⟩ := h
    obtain ⟨dx, e⟩ := R.ex
    refine ⟨_, (pss_one (ps_ret (pe_cmpR op_eq (pe_fld (pv 0) rfl) (pe_callB call_len rfl T.z_len boot_len (pa_cons (pe_fld (pv 0) rfl) pa_nil)) (nomark _)))), ?_⟩
    refine ⟨_, rfl, _, _, _, _, _, rfl, e, T.cl_Reader, T.nA_Reader_place, rfl, ?_⟩
    refine ⟨_, rfl, _, _, _, _, _, rfl, e, T.cl_Reader, T.nA_Reader_octets, rfl, ?_⟩
    refine ⟨_, _, rfl, lenL R.sq, rfl, Q_bl q ?_⟩
    rw [List.length_map]
    exact decide_eq_decide.mpr ⟨fun h => h ▸ rfl, fun h => by injection h with h; omega⟩
theorem ok_Reader_look (T : Txt K mg) : FnOk P w K mg base (CX P w) 3 T.f_Reader_look T.d_Reader_look ["self"] (sp_Reader_look K T.C_Reader T.C_NoOctets) := by
  refine T.F_Reader_look.okX sc_Reader_look (fun vs H Q E h => ?_) (fun cdv A outer s H vs Q E hr h => ?_)
  · obtain ⟨r, a, os, k, rfl, _⟩ := h
    rfl
  · obtain ⟨r, a, os, k, rfl, R, q1, q2⟩ := h
    obtain ⟨dx, e⟩ := R.ex
    refine ⟨_, (pss_cons (ps_if (pt_val (pe_meth0 (pv 0) T.cl_Reader T.m_Reader_at_end (ok_Reader_at_end T) (hr.mono (by decide)) T.b_Reader_at_end .nil pass0)) (pss_one (ps_raiseE rfl T.E_NoOctets (ok_NoOctets_init T) (hr.mono (by decide)) T.b_NoOctets_init pass0 (takes_of rfl rfl rfl rfl) rfl (pa_cons (pe_fld (pv 0) rfl) pa_nil))) pss_nil)
      (pss_one (ps_ret (pe_ix ix_list (pe_fld (pv 0) rfl) (pe_fld (pv 0) rfl) (fun _ _ => rfl))))), ?_⟩
    refine ⟨_, rfl, r, dx, _, rfl, e, rfl, r, a, os, k, rfl, R, _, rfl, ifb (fun h => ?_) (fun h => ?_)⟩
    · have hk : k = os.length := of_decide_eq_true h
      refine ⟨_, rfl, _, _, _, _, _, rfl, e, T.cl_Reader, T.nA_Reader_place, rfl, err_go (small_int R) fun d H' s1 _ h2 => ?_⟩
      exact q1 (List.getElem?_eq_none_iff.mpr (by omega)) d H' (But.of s1) h2
    · have hk : k ≠ os.length := of_decide_eq_false h
      have hl := R.le
      obtain ⟨o, ho⟩ : ∃ o, os[k]? = some o := ⟨os[k]'(by omega), List.getElem?_eq_getElem _⟩
      refine ⟨_, rfl, _, _, _, _, _, rfl, e, T.cl_Reader, T.nA_Reader_octets, rfl, ?_⟩
      refine ⟨_, rfl, _, _, _, _, _, rfl, e, T.cl_Reader, T.nA_Reader_place, rfl, ?_⟩
      exact ⟨_, _, _, _, rfl, rfl, R.sq, at_ofN rfl (by rw [List.getElem?_map, ho]; rfl), q2 o ho⟩
theorem ok_Reader_accept (T : Txt K mg) : FnOk P w K mg base (CX P w) 3 T.f_Reader_accept T.d_Reader_accept ["self", "fits"] (sp_Reader_accept K T.C_Reader T.C_NoOctets) := by
  refine T.F_Reader_accept.okX sc_Reader_accept (fun vs H Q E h => ?_) (fun cdv A outer s H vs Q E hr h => ?_)
  · obtain ⟨r, a, os, k, b, rfl, _⟩ := h
    rfl
  · obtain ⟨r, a, os, k, b, rfl, R, hk, q1, q2⟩ := h
    obtain ⟨dx, e⟩ := R.ex
    refine ⟨_, (pss_cons (ps_if (pt_not (pt_val (pv 1))) (pss_one (ps_raiseE rfl T.E_NoOctets (ok_NoOctets_init T) (hr.mono (by decide)) T.b_NoOctets_init pass0 (takes_of rfl rfl rfl rfl) rfl (pa_cons (pe_fld (pv 0) rfl) pa_nil))) pss_nil)
      (pss_one (ps_fldaug (pv 0) pe_int in_add))), ?_⟩
    cases b with
    | false =>
      refine ⟨_, rfl, _, rfl, iteT ?_⟩
      refine ⟨_, rfl, _, _, _, _, _, rfl, e, T.cl_Reader, T.nA_Reader_place, rfl, err_go (small_int R) fun d H' s1 _ h2 => ?_⟩
      exact q1 rfl d H' (But.of s1) h2
    | true =>
      refine ⟨_, rfl, _, rfl, ifF rfl ?_⟩
      refine ⟨_, rfl, _, _, _, _, _, rfl, e, T.cl_Reader, T.nA_Reader_place, rfl, _, _, rfl, rfl, _, _, e, by show 2 < 1000; decide, ?_⟩
      exact q2 rfl _ But.set ⟨⟨_, upd_same⟩, But.seq (p := r) (H := H) But.set R.ne R.sq, R.ne, R.lt, R.len, hk⟩
theorem ok_Reader_finish (T : Txt K mg) : FnOk P w K mg base (CX P w) 3 T.f_Reader_finish T.d_Reader_finish ["self"] (sp_Reader_finish K T.C_Reader T.C_NoOctets) := by
  refine T.F_Reader_finish.okX sc_Reader_finish (fun vs H Q E h => ?_) (fun cdv A outer s H vs Q E hr h => ?_)
  · obtain ⟨r, a, os, k, rfl, _⟩ := h
    rfl
  · obtain ⟨r, a, os, k, rfl, R, q1, q2⟩ := h
    obtain ⟨dx, e⟩ := R.ex
    refine ⟨_, (pss_one (ps_if (pt_not (pt_val (pe_meth0 (pv 0) T.cl_Reader T.m_Reader_at_end (ok_Reader_at_end T) (hr.mono (by decide)) T.b_Reader_at_end .nil pass0))) (pss_one (ps_raiseE rfl T.E_NoOctets (ok_NoOctets_init T) (hr.mono (by decide)) T.b_NoOctets_init pass0 (takes_of rfl rfl rfl rfl) rfl (pa_cons (pe_fld (pv 0) rfl) pa_nil))) pss_nil)), ?_⟩
    refine ⟨_, rfl, r, dx, _, rfl, e, rfl, r, a, os, k, rfl, R, _, rfl, ifb (fun h => ?_) (fun h => ?_)⟩
    · have hk : k ≠ os.length := fun z => by rw [decide_eq_true z] at h; cases h
      refine ⟨_, rfl, _, _, _, _, _, rfl, e, T.cl_Reader, T.nA_Reader_place, rfl, err_go (small_int R) fun d H' s1 _ h2 => ?_⟩
      exact q1 hk d H' (But.of s1) h2
    · exact q2 (Classical.byContradiction fun z => by rw [decide_eq_false z] at h; cases h)

theorem ok_Reader_take_rest (T : Txt K mg) : FnOk P w K mg base (CX P w) 4 T.f_Reader_take_rest T.d_Reader_take_rest ["self", "most"] (sp_Reader_take_rest K T.C_Reader T.C_NoOctets) := by
  refine T.F_Reader_take_rest.okX sc_Reader_take_rest (fun vs H Q E h => ?_) (fun cdv A outer s H vs Q E hr h => ?_)
  · obtain ⟨r, a, os, k, most, rfl, _⟩ := h
    rfl
  · obtain ⟨r, a, os, k, most, rfl, R, hm, q⟩ := h
    refine ⟨_, (pss_cons (ps_set (i := 2) sc_Reader_take_rest.nd rfl (Or.inl rfl) pe_int)
      (pss_cons (ps_set (i := 3) sc_Reader_take_rest.nd rfl (Or.inl rfl) pe_int)
      (pss_cons (ps_while (passes_of rfl) (pt_cmpR op_ge (pe_meth0 (pv 0) T.cl_Reader T.m_Reader_look (ok_Reader_look T) (hr.mono (by decide)) T.b_Reader_look .nil (passes_call (takes_of rfl rfl rfl rfl) (fun _ _ _ _ h => h))) pe_int (nomark _))
        (pss_cons (ps_aug (i := 2) sc_Reader_take_rest.nd rfl (Or.inl rfl) (pe_op op_mul (pe_op op_sub (pe_meth0 (pv 0) T.cl_Reader T.m_Reader_look (ok_Reader_look T) (hr.mono (by decide)) T.b_Reader_look .nil (passes_call (takes_of rfl rfl rfl rfl) (fun _ _ _ _ h => h))) pe_int) (pv 3)) ip_add)
      (pss_cons (ps_set (i := 3) sc_Reader_take_rest.nd rfl (Or.inl rfl) (pe_op op_mul (pv 3) pe_int))
      (pss_one (ps_expr (pe_meth (pv 0) T.cl_Reader T.m_Reader_accept (ok_Reader_accept T) (hr.mono (by decide)) T.b_Reader_accept .nil (passes_call (takes_of rfl rfl rfl rfl) (fun _ _ _ _ h => h)) (pa_cons (pe_cmpR op_le (pe_op op_add (pv 2) (pv 3)) (pv 1) (nomark _)) pa_nil)))))))
      (pss_cons (ps_set (i := 4) sc_Reader_take_rest.nd rfl (Or.inl rfl) (pe_meth0 (pv 0) T.cl_Reader T.m_Reader_look (ok_Reader_look T) (hr.mono (by decide)) T.b_Reader_look .nil (passes_call (takes_of rfl rfl rfl rfl) (fun _ _ _ _ h => h))))
      (pss_cons (ps_aug (i := 2) sc_Reader_take_rest.nd rfl (Or.inl rfl) (pe_op op_mul (pv 4) (pv 3)) ip_add)
      (pss_cons (ps_expr (pe_meth (pv 0) T.cl_Reader T.m_Reader_accept (ok_Reader_accept T) (hr.mono (by decide)) T.b_Reader_accept .nil (passes_call (takes_of rfl rfl rfl rfl) (fun _ _ _ _ h => h)) (pa_cons (pe_and (pe_cmpR op_le (pv 2) (pv 1) (nomark _)) (pe_one (pe_or (pe_cmpR op_gt (pv 4) pe_int (nomark _)) (pe_one (pe_cmpR op_eq (pv 3) pe_int (nomark _)))))) pa_nil)))
      (pss_one (ps_ret (pv 2))))))))), ?_⟩
    let W : Nat → L2.St → Hp → Prop := fun m σ H' => ∃ (k' : Nat) (z wt : Int), σ = [some (.ref r), some (.int most), some (.int z), some (.int wt), none] ∧ Rd K T.C_Reader H' r a os k' ∧ But r H H' ∧ m = os.length - k' ∧
      takeRest most (os.drop k') k' z wt = takeRest most (os.drop k) k 0 1 ∧ 0 ≤ z ∧ 1 ≤ wt ∧ wt ≤ 1000000
    refine ⟨W, ⟨_, k, 0, 1, rfl, R, But.refl _ _, rfl, rfl, by decide, by decide, by decide⟩, ?_⟩
    rintro m σ H1 ⟨k', z, wt, rfl, R1, b1, rfl, hE, hz, hw1, hw2⟩
    obtain ⟨dx, e⟩ := R1.ex
    refine ⟨_, rfl, r, dx, _, rfl, e, rfl, r, a, os, k', rfl, R1, fun hn => ?_, fun o ho => ?_⟩
    · rw [← hE, List.drop_eq_nil_of_le (Nat.le_of_eq (R1.end_ hn).symm)] at q
      exact RdErr.pre b1 q
    have hlt : k' < os.length := (List.getElem?_eq_some_iff.mp ho).1
    have hdr : os.drop k' = o :: os.drop (k' + 1) := by rw [List.drop_eq_getElem_cons hlt, (List.getElem?_eq_some_iff.mp ho).2]
    have ho2 := R1.get ho
    rw [hdr] at hE
    refine ⟨_, _, rfl, rfl, _, rfl, ifb (fun h => ?_) (fun h => ?_)⟩
    · have h' : 128 ≤ o := of_decide_eq_true h
      refine ⟨fun σ' H' => W (os.length - (k' + 1)) σ' H', fun σ' H' hW => ⟨_, by omega, hW⟩, ?_⟩
      refine ⟨_, rfl, _, rfl, r, dx, _, rfl, e, rfl, r, a, os, k', rfl, R1, fun hn => absurd (hn.symm.trans ho) (by simp), fun o' ho' => ?_⟩
      cases ho.symm.trans ho'
      refine ⟨_, _, rfl, rfl, _, rfl, _, _, rfl, rfl, .inl ⟨by omega, by omega⟩, _, _, rfl, rfl, ?_⟩
      refine ⟨_, rfl, _, _, rfl, rfl, .inl ⟨by omega, by omega⟩, ?_⟩
      refine ⟨_, rfl, r, dx, _, rfl, e, rfl, ?_⟩
      refine ⟨_, rfl, _, rfl, _, _, rfl, rfl, _, rfl, _, _, rfl, rfl, ?_⟩
      refine ⟨r, a, os, k', _, rfl, R1, hlt, fun hb => ?_, fun hb H2 b2 R2 => ?_⟩
      · rw [takeRest, if_pos h', if_neg (of_decide_eq_false hb)] at hE
        rw [← hE] at q
        exact RdErr.pre b1 q
      · have hb' : z + (o - 128) * wt + wt * 128 ≤ most := of_decide_eq_true hb
        rw [takeRest, if_pos h', if_pos hb'] at hE
        have h0 : 0 ≤ (o - 128) * wt := Int.mul_nonneg (by omega) (by omega)
        exact ⟨k' + 1, z + (o - 128) * wt, wt * 128, rfl, R2, b1.trans b2, rfl, hE, by omega, by omega, by omega⟩
    · have h' : ¬ 128 ≤ o := of_decide_eq_false h
      refine ⟨_, rfl, r, dx, _, rfl, e, rfl, r, a, os, k', rfl, R1, fun hn => absurd (hn.symm.trans ho) (by simp), fun o' ho' => ?_⟩
      cases ho.symm.trans ho'
      refine ⟨_, rfl, _, rfl, _, rfl, _, _, rfl, rfl, .inl ⟨by omega, by omega⟩, _, _, rfl, rfl, ?_⟩
      refine ⟨_, rfl, r, dx, _, rfl, e, rfl, ?_⟩
      have go : ∀ (b : Bool), b = decide (z + o * wt ≤ most ∧ (0 < o ∨ wt = 1)) → sp_Reader_accept K T.C_Reader T.C_NoOctets [.ref r, .bl b] H1 (fun _ H2 => ∃ v, (some (some (V.int (z + o * wt))) : Option (Option V)) = some (some v) ∧ Q v H2) E := by
        intro b hb
        refine ⟨r, a, os, k', _, rfl, R1, hlt, fun hf => ?_, fun ht H2 b2 R2 => ?_⟩
        · rw [hf] at hb
          rw [takeRest, if_neg h', if_neg (of_decide_eq_false hb.symm)] at hE
          rw [← hE] at q
          exact RdErr.pre b1 q
        · rw [ht] at hb
          rw [takeRest, if_neg h', if_pos (of_decide_eq_true hb.symm)] at hE
          rw [← hE] at q
          exact ⟨_, rfl, q _ H2 (b1.trans b2) R2 rfl⟩
      refine ⟨_, rfl, _, rfl, _, _, rfl, rfl, _, rfl, ifb (fun h1 => ?_) (fun h1 => ?_)⟩
      · have h1' : z + o * wt ≤ most := of_decide_eq_true h1
        refine ⟨_, rfl, _, _, rfl, rfl, _, rfl, ifb (fun h2 => ?_) (fun h2 => ?_)⟩
        · have h2' : 0 < o := of_decide_eq_true h2
          exact go _ (decide_eq_true ⟨h1', .inl h2'⟩).symm
        · have h2' : ¬ 0 < o := of_decide_eq_false h2
          refine ⟨_, rfl, rfl, ?_⟩
          have hd : decide (V.int wt = V.int 1) = decide (z + o * wt ≤ most ∧ (0 < o ∨ wt = 1)) := by
            refine decide_eq_decide.mpr ⟨fun h3 => ⟨h1', .inr (by injection h3)⟩, fun h3 => ?_⟩
            rcases h3.2 with h4 | h4
            · exact absurd h4 h2'
            · rw [h4]
          exact go _ hd
      · have h1' : ¬ z + o * wt ≤ most := of_decide_eq_false h1
        exact go _ (decide_eq_false fun h3 => h1' h3.1).symm
theorem ok_Reader_take_number (T : Txt K mg) : FnOk P w K mg base (CX P w) 5 T.f_Reader_take_number T.d_Reader_take_number ["self", "prefix", "mark", "least", "most"] (sp_Reader_take_number K T.C_Reader T.C_NoOctets) := by
  refine T.F_Reader_take_number.okX sc_Reader_take_number (fun vs H Q E h => ?_) (fun cdv A outer s H vs Q E hr h => ?_)
  · obtain ⟨r, a, os, k, b, m, least, most, rfl, _⟩ := h
    rfl
  · obtain ⟨r, a, os, k, b, m, least, most, rfl, R, hb, hm, q⟩ := h
    obtain ⟨dx, e⟩ := R.ex
    refine ⟨_, (pss_cons (ps_set (i := 5) sc_Reader_take_number.nd rfl (Or.inl rfl) (pe_call (ok_prefix_bits T) (hr.mono (by decide)) rfl T.g_prefix_bits T.F_prefix_bits.kp T.b_prefix_bits .nil pass0 (pa_cons (pv 1) pa_nil)))
      (pss_cons (ps_set (i := 6) sc_Reader_take_number.nd rfl (Or.inl rfl) (pe_op op_sub (pe_meth0 (pv 0) T.cl_Reader T.m_Reader_look (ok_Reader_look T) (hr.mono (by decide)) T.b_Reader_look .nil (passes_call (takes_of rfl rfl rfl rfl) (fun _ _ _ _ h => h))) (pv 2)))
      (pss_cons (ps_expr (pe_meth (pv 0) T.cl_Reader T.m_Reader_accept (ok_Reader_accept T) (hr.mono (by decide)) T.b_Reader_accept .nil (passes_call (takes_of rfl rfl rfl rfl) (fun _ _ _ _ h => h)) (pa_cons (pe_chain op_le op_le (pv 3) (pv 6) (pe_callB (call_min2 rfl) rfl T.z_min boot_min (pa_cons (pv 5) (pa_cons (pv 4) pa_nil)))) pa_nil)))
      (pss_cons (ps_if (pt_cmpR op_lt (pv 6) (pv 5) (nomark _)) (pss_one (ps_ret (pv 6))) pss_nil)
      (pss_one (ps_ret (pe_op op_add (pv 5) (pe_meth (pv 0) T.cl_Reader T.m_Reader_take_rest (ok_Reader_take_rest T) (hr.mono (by decide)) T.b_Reader_take_rest .nil (passes_call (takes_of rfl rfl rfl rfl) (fun _ _ _ _ h => h)) (pa_cons (pe_op op_sub (pv 4) (pv 5)) pa_nil))))))))), ?_⟩
    refine ⟨_, rfl, b, rfl, by omega, ?_⟩
    refine ⟨_, rfl, r, dx, _, rfl, e, rfl, r, a, os, k, rfl, R, fun hn => ?_, fun o ho => ?_⟩
    · rw [takeNum, hn] at q
      exact q
    rw [takeNum, ho] at q
    have hlt : k < os.length := (List.getElem?_eq_some_iff.mp ho).1
    have hp := bits_cast b
    have hp8 := pow_le8 hb
    have hp0 := pow_pos2 b
    rw [hp]
    refine ⟨_, rfl, _, _, rfl, rfl, ?_⟩
    refine ⟨_, rfl, r, dx, _, rfl, e, rfl, ?_⟩
    have hmin : (if most < ((2 ^ b - 1 : Nat) : Int) then most else ((2 ^ b - 1 : Nat) : Int)) = min ((2 ^ b - 1 : Nat) : Int) most := by
      by_cases h : most < ((2 ^ b - 1 : Nat) : Int)
      · rw [if_pos h]; omega
      · rw [if_neg h]; omega
    have go1 : ∀ (bb : Bool), bb = decide (least ≤ o - (m : Int) ∧ o - (m : Int) ≤ min ((2 ^ b - 1 : Nat) : Int) most) → bb = false → RdErr T.C_NoOctets r H E k := by
      intro bb hb hf
      dsimp only at q
      rw [if_neg (of_decide_eq_false (hb.symm.trans hf))] at q
      exact q
    have go2 : ∀ (bb : Bool), bb = decide (least ≤ o - (m : Int) ∧ o - (m : Int) ≤ min ((2 ^ b - 1 : Nat) : Int) most) → bb = true → ∀ H1, But r H H1 → RdRes K T.C_Reader T.C_NoOctets r a os H1 Q E rInt (if o - (m : Int) < ((2 ^ b - 1 : Nat) : Int) then .ok (o - m, k + 1)
       else (takeRest (most - ((2 ^ b - 1 : Nat) : Int)) (os.drop (k + 1)) (k + 1) 0 1).map fun z => (((2 ^ b - 1 : Nat) : Int) + z.1, z.2)) := by
      intro bb hb hf H1 b1
      dsimp only at q
      rw [if_pos (of_decide_eq_true (hb.symm.trans hf))] at q
      exact q.pre b1
    refine ⟨_, rfl, _, rfl, _, _, rfl, rfl, _, rfl, ifb (fun h1 => ?_) (fun h1 => ?_)⟩
    · refine ⟨_, rfl, _, rfl, _, _, rfl, _, _, rfl, rfl, ?_⟩
      have h1' : least ≤ o - (m : Int) := of_decide_eq_true h1
      have hd : decide (o - (m : Int) ≤ (if most < ((2 ^ b - 1 : Nat) : Int) then most else ((2 ^ b - 1 : Nat) : Int))) = decide (least ≤ o - (m : Int) ∧ o - (m : Int) ≤ min ((2 ^ b - 1 : Nat) : Int) most) := by
        rw [hmin]
        exact decide_eq_decide.mpr ⟨fun h => ⟨h1', h⟩, fun h => h.2⟩
      refine ⟨r, a, os, k, _, rfl, R, hlt, fun hb => go1 _ hd hb, fun hb H1 b1 R1 => ?_⟩
      have q1 := go2 _ hd hb H1 b1
      obtain ⟨dx1, e1⟩ := R1.ex
      refine ⟨_, rfl, _, rfl, _, _, rfl, rfl, _, rfl, ifb (fun h2 => ?_) (fun h2 => ?_)⟩
      · have h2' : o - (m : Int) < ((2 ^ b - 1 : Nat) : Int) := of_decide_eq_true h2
        rw [if_pos h2'] at q1
        exact ⟨_, rfl, q1 _ H1 (But.refl _ _) R1 rfl⟩
      · have h2' : ¬ o - (m : Int) < ((2 ^ b - 1 : Nat) : Int) := of_decide_eq_false h2
        rw [if_neg h2'] at q1
        refine ⟨_, rfl, _, rfl, r, dx1, _, rfl, e1, rfl, _, rfl, _, rfl, _, _, rfl, rfl, ?_⟩
        refine ⟨r, a, os, k + 1, _, rfl, R1, by omega, ?_⟩
        revert q1
        cases takeRest (most - ((2 ^ b - 1 : Nat) : Int)) (os.drop (k + 1)) (k + 1) 0 1 with
        | error z => exact fun q1 => q1
        | ok z =>
          intro q1 v H2 b2 R2 hv
          cases hv
          exact ⟨_, _, rfl, rfl, q1 _ H2 b2 R2 rfl⟩
    · have h1' : ¬ least ≤ o - (m : Int) := of_decide_eq_false h1
      have hd : false = decide (least ≤ o - (m : Int) ∧ o - (m : Int) ≤ min ((2 ^ b - 1 : Nat) : Int) most) := (decide_eq_false fun h => h1' h.1).symm
      exact ⟨r, a, os, k, _, rfl, R, hlt, fun hb => go1 _ hd hb, fun hb => nomatch hb⟩
theorem ok_Reader_take_string (T : Txt K mg) : FnOk P w K mg base (CX P w) 6 T.f_Reader_take_string T.d_Reader_take_string ["self", "prefix", "mark", "least", "most"] (sp_Reader_take_string K T.C_Reader T.C_NoOctets) := by
  refine T.F_Reader_take_string.okX sc_Reader_take_string (fun vs H Q E h => ?_) (fun cdv A outer s H vs Q E hr h => ?_)
  · obtain ⟨r, a, os, k, b, m, least, most, rfl, _⟩ := h
    rfl
  · obtain ⟨r, a, os, k, b, m, least, most, rfl, R, hb, hl0, hm, q⟩ := h
    obtain ⟨dx, e⟩ := R.ex
    refine ⟨_, (pss_cons (ps_set (i := 5) sc_Reader_take_string.nd rfl (Or.inl rfl) (pe_meth (pv 0) T.cl_Reader T.m_Reader_take_number (ok_Reader_take_number T) (hr.mono (by decide)) T.b_Reader_take_number .nil (passes_call (takes_of rfl rfl rfl rfl) (fun _ _ _ _ h => h)) (pa_cons (pv 1) (pa_cons (pv 2) (pa_cons (pv 3) (pa_cons (pv 4) pa_nil))))))
      (pss_cons (ps_set (i := 6) sc_Reader_take_string.nd rfl (Or.inl rfl) pe_str)
      (pss_cons (ps_for (passes_of rfl) rfl (pi_range1 rfl T.z_range (pa_cons (pv 5) pa_nil)) (pg_name (i := 7) sc_Reader_take_string.nd rfl (Or.inl rfl))
        (pss_cons (ps_set (i := 8) sc_Reader_take_string.nd rfl (Or.inl rfl) (pe_meth0 (pv 0) T.cl_Reader T.m_Reader_look (ok_Reader_look T) (hr.mono (by decide)) T.b_Reader_look .nil (passes_call (takes_of rfl rfl rfl rfl) (fun _ _ _ _ h => h))))
      (pss_cons (ps_expr (pe_meth (pv 0) T.cl_Reader T.m_Reader_accept (ok_Reader_accept T) (hr.mono (by decide)) T.b_Reader_accept .nil (passes_call (takes_of rfl rfl rfl rfl) (fun _ _ _ _ h => h)) (pa_cons (pe_cmpR (op_in_kdI T.CHARACTERS_d) (pv 8) (pe_glob (v := .ref T.a_CHARACTERS) rfl T.g_CHARACTERS rfl) rfl) pa_nil)))
      (pss_one (ps_aug (i := 6) sc_Reader_take_string.nd rfl (Or.inl rfl) (pe_ix (ix_kdI T.CHARACTERS_d) (pe_glob (v := .ref T.a_CHARACTERS) rfl T.g_CHARACTERS rfl) (pv 8) (fun _ _ => rfl)) ip_addT)))))
      (pss_one (ps_ret (pv 6)))))), ?_⟩
    refine ⟨_, rfl, r, dx, _, rfl, e, rfl, _, rfl, _, rfl, _, rfl, _, rfl, ?_⟩
    refine ⟨r, a, os, k, b, m, least, most, rfl, R, hb, by omega, ?_⟩
    rw [takeStr] at q
    revert q
    have hbd := takeNum_bound os b m least most k (fun o ho => (R.lt o ho).1)
    revert hbd
    cases takeNum os b m least most k with
    | error z => exact fun _ q => q
    | ok z =>
      intro hbd q v H1 b1 R1 hv
      cases hv
      obtain ⟨n, k1⟩ := z
      obtain ⟨hn1, hn2⟩ := hbd n k1 rfl
      obtain ⟨nn, rfl⟩ : ∃ nn : Nat, n = (nn : Int) := ⟨n.toNat, by omega⟩
      dsimp only at q
      rw [Int.toNat_natCast] at q
      refine ⟨_, rfl, _, rfl, by omega, by omega, ?_⟩
      refine for_range (lo := 0) (n := ((nn : Nat) : Int).toNat) (fun i σ H' => ∃ (k' : Nat) (cs : List Nat) (v7 v8 : Option V), σ = [some (.ref r), some (.int (b : Nat)), some (.int (m : Nat)), some (.int least), some (.int most), some (.int (nn : Nat)), some (.str ⟨cs.toArray⟩), v7, v8] ∧
        Rd K T.C_Reader H' r a os k' ∧ But r H H' ∧ cs.length = i ∧ takeChars nn (os.drop k1) k1 = (takeChars (nn - i) (os.drop k') k').map fun z => (cs ++ z.1, z.2)) ⟨k1, [], _, _, rfl, R1, b1, rfl, ?_⟩ ?_ ?_
      · cases takeChars nn (os.drop k1) k1 <;> rfl
      · rintro i σ H2 hi ⟨k', cs, v7, v8, rfl, R2, b2, hcs, hE⟩
        rw [Int.toNat_natCast] at hi
        obtain ⟨dx2, e2⟩ := R2.ex
        have hni : nn - i = (nn - (i + 1)) + 1 := by omega
        rw [hni] at hE
        refine ⟨_, rfl, r, dx2, _, rfl, e2, rfl, r, a, os, k', rfl, R2, fun hn => ?_, fun o ho => ?_⟩
        · rw [List.drop_eq_nil_of_le (Nat.le_of_eq (R2.end_ hn).symm), takeChars] at hE
          rw [hE] at q
          exact RdErr.pre b2 q
        have hlt : k' < os.length := (List.getElem?_eq_some_iff.mp ho).1
        have hdr : os.drop k' = o :: os.drop (k' + 1) := by rw [List.drop_eq_getElem_cons hlt, (List.getElem?_eq_some_iff.mp ho).2]
        rw [hdr, takeChars] at hE
        have ho2 := R2.get ho
        obtain ⟨c, rfl⟩ : ∃ c : Nat, o = (c : Int) := ⟨o.toNat, by omega⟩
        rw [Int.toNat_natCast] at hE
        refine ⟨_, rfl, r, dx2, _, rfl, e2, rfl, _, rfl, _, rfl, rfl, ?_⟩
        refine ⟨r, a, os, k', _, rfl, R2, hlt, fun hf => ?_, fun ht H3 b3 R3 => ?_⟩
        · rw [valI_chars] at hf
          cases hc : isChar c with
          | true => rw [hc] at hf; cases hf
          | false =>
            rw [hc, if_neg (by decide)] at hE
            rw [hE] at q
            exact RdErr.pre b2 q
        · rw [valI_chars] at ht
          cases hc : isChar c with
          | false => rw [hc] at ht; cases ht
          | true =>
            rw [hc, if_pos rfl] at hE
            refine ⟨_, rfl, _, rfl, c, .str ⟨#[c]⟩, rfl, rfl, by rw [valI_chars, hc]; rfl, _, _, rfl, rfl, ?_, ?_⟩
            · show cs.toArray.size + 1 ≤ sizeLine
              rw [List.size_toArray, sizeLine_eq]
              omega
            · refine ⟨k' + 1, cs ++ [c], some (.int (0 + (i : Int))), some (.int (c : Nat)), ?_, R3, b2.trans b3, by rw [List.length_append, hcs]; rfl, ?_⟩
              · have hst : ((⟨cs.toArray⟩ : Str) ++ (⟨#[c]⟩ : Str)) = ⟨(cs ++ [c]).toArray⟩ := by
                  show Str.mk (cs.toArray ++ #[c]) = _
                  simp
                rw [hst]
                rfl
              · rw [hE]
                cases takeChars (nn - (i + 1)) (os.drop (k' + 1)) (k' + 1) with
                | error z => rfl
                | ok z =>
                  show Except.ok (cs ++ (c :: z.1), z.2) = Except.ok (cs ++ [c] ++ z.1, z.2)
                  rw [List.append_assoc]
                  rfl
      · rintro σ H2 ⟨k', cs, v7, v8, rfl, R2, b2, hcs, hE⟩
        rw [Int.toNat_natCast, Nat.sub_self, takeChars] at hE
        rw [hE] at q
        refine ⟨_, rfl, q _ H2 b2 R2 ?_⟩
        show V.str ⟨cs.toArray⟩ = V.str ⟨(cs ++ []).toArray⟩
        rw [List.append_nil]
theorem ok_Reader_take_name (T : Txt K mg) : FnOk P w K mg base (CX P w) 7 T.f_Reader_take_name T.d_Reader_take_name ["self", "prefix", "mark"] (sp_Reader_take_name K T.C_Reader T.C_NoOctets) := by
  refine T.F_Reader_take_name.okX sc_Reader_take_name (fun vs H Q E h => ?_) (fun cdv A outer s H vs Q E hr h => ?_)
  · obtain ⟨r, a, os, k, b, m, rfl, _⟩ := h
    rfl
  · obtain ⟨r, a, os, k, b, m, rfl, R, hb, q⟩ := h
    obtain ⟨dx, e⟩ := R.ex
    refine ⟨_, (pss_one (ps_ret (pe_meth (pv 0) T.cl_Reader T.m_Reader_take_string (ok_Reader_take_string T) (hr.mono (by decide)) T.b_Reader_take_string .nil (passes_call (takes_of rfl rfl rfl rfl) (fun _ _ _ _ h => h)) (pa_cons (pv 1) (pa_cons (pv 2) (pa_cons pe_int (pa_cons (pe_glob (v := .int 20) rfl T.g_NAME_MOST ⟨_, rfl⟩) pa_nil))))))), ?_⟩
    exact ⟨_, rfl, r, dx, _, rfl, e, rfl, _, rfl, _, rfl, r, a, os, k, b, m, 1, 20, rfl, R, hb, by decide, by decide, q⟩
theorem ok_Reader_take_value (T : Txt K mg) : FnOk P w K mg base (CX P w) 7 T.f_Reader_take_value T.d_Reader_take_value ["self"] (sp_Reader_take_value K T.C_Reader T.C_NoOctets) := by
  refine T.F_Reader_take_value.okX sc_Reader_take_value (fun vs H Q E h => ?_) (fun cdv A outer s H vs Q E hr h => ?_)
  · obtain ⟨r, a, os, k, rfl, _⟩ := h
    rfl
  · obtain ⟨r, a, os, k, rfl, R, q⟩ := h
    obtain ⟨dx, e⟩ := R.ex
    refine ⟨_, (pss_one (ps_ret (pe_meth (pv 0) T.cl_Reader T.m_Reader_take_string (ok_Reader_take_string T) (hr.mono (by decide)) T.b_Reader_take_string .nil (passes_call (takes_of rfl rfl rfl rfl) (fun _ _ _ _ h => h)) (pa_cons (pe_glob (v := .int 7) rfl T.g_VALUE_PREFIX ⟨_, rfl⟩) (pa_cons pe_int (pa_cons pe_int (pa_cons (pe_glob (v := .int 40) rfl T.g_VALUE_MOST ⟨_, rfl⟩) pa_nil))))))), ?_⟩
    exact ⟨_, rfl, r, dx, _, rfl, e, rfl, r, a, os, k, 7, 0, 0, 40, rfl, R, by decide, by decide, by decide, q⟩

theorem ok_take_source (T : Txt K mg) : FnOk P w K mg base (CX P w) 8 T.f_take_source T.d_take_source ["reader"] (sp_take K T.C_Reader T.C_NoOctets takeSrc (rSrc K)) := by
  refine T.F_take_source.okX sc_take_source (fun vs H Q E h => ?_) (fun cdv A outer s H vs Q E hr h => ?_)
  · obtain ⟨r, a, os, k, rfl, _⟩ := h
    rfl
  · obtain ⟨r, a, os, k, rfl, R, q⟩ := h
    obtain ⟨dx, e⟩ := R.ex
    refine ⟨_, (pss_cons (ps_set (i := 1) sc_take_source.nd rfl (Or.inl rfl) (pe_meth0 (pv 0) T.cl_Reader T.m_Reader_look (ok_Reader_look T) (hr.mono (by decide)) T.b_Reader_look .nil (passes_call (takes_of rfl rfl rfl rfl) (fun _ _ _ _ h => h))))
      (pss_cons (ps_if (pt_cmpR op_ge (pv 1) pe_int (nomark _)) (pss_one (ps_ret (pe_tup (pa_cons pe_str (pa_cons (pe_meth (pv 0) T.cl_Reader T.m_Reader_take_number (ok_Reader_take_number T) (hr.mono (by decide)) T.b_Reader_take_number .nil (passes_call (takes_of rfl rfl rfl rfl) (fun _ _ _ _ h => h)) (pa_cons pe_int (pa_cons pe_int (pa_cons pe_int (pa_cons (pe_glob (v := .int 9999) rfl T.g_NUMBER_MOST ⟨_, rfl⟩) pa_nil))))) pa_nil))))) pss_nil)
      (pss_cons (ps_if (pt_cmpR op_ge (pv 1) pe_int (nomark _)) (pss_one (ps_ret (pe_tup (pa_cons pe_str (pa_cons (pe_meth (pv 0) T.cl_Reader T.m_Reader_take_number (ok_Reader_take_number T) (hr.mono (by decide)) T.b_Reader_take_number .nil (passes_call (takes_of rfl rfl rfl rfl) (fun _ _ _ _ h => h)) (pa_cons pe_int (pa_cons pe_int (pa_cons pe_int (pa_cons (pe_glob (v := .int 9999) rfl T.g_NUMBER_MOST ⟨_, rfl⟩) pa_nil))))) pa_nil))))) pss_nil)
      (pss_one (ps_ret (pe_tup (pa_cons pe_str (pa_cons (pe_meth (pv 0) T.cl_Reader T.m_Reader_take_name (ok_Reader_take_name T) (hr.mono (by decide)) T.b_Reader_take_name .nil (passes_call (takes_of rfl rfl rfl rfl) (fun _ _ _ _ h => h)) (pa_cons pe_int (pa_cons pe_int pa_nil))) pa_nil)))))))), ?_⟩
    have hos : ∀ o ∈ os, 0 ≤ o := fun o ho => (R.lt o ho).1
    refine ⟨_, rfl, r, dx, _, rfl, e, rfl, r, a, os, k, rfl, R, fun hn => ?_, fun o ho => ?_⟩
    · rw [takeSrc, hn] at q
      exact q
    rw [takeSrc, ho] at q
    dsimp only at q
    refine ⟨_, rfl, _, _, rfl, rfl, _, rfl, ifb (fun h => ?_) (fun h => ?_)⟩
    · have h' : 192 ≤ o := of_decide_eq_true h
      rw [if_pos h'] at q
      refine ⟨_, rfl, r, dx, _, rfl, e, rfl, r, a, os, k, 6, 192, 0, 9999, rfl, R, by decide, by decide, ?_⟩
      refine res_map q (fun _ => rfl) fun z v H1 hz b1 R1 hv go => ?_
      have hb := takeNum_bound os 6 192 0 9999 k hos z.1 z.2 hz
      cases hv
      refine ⟨by show 2 ≤ sizeLine; decide, fun p hp => go _ _ (Same.new hp) ⟨p, rfl, .inl (.inl ?_)⟩⟩
      rw [upd_same]
      show some (HO.tup [.str "fixed", .int z.1]) = some (HO.tup [.str "fixed", .int (z.1.toNat : Nat)])
      rw [Int.toNat_of_nonneg hb.1]
    · have h' : ¬ 192 ≤ o := of_decide_eq_false h
      rw [if_neg h'] at q
      refine ⟨_, rfl, _, _, rfl, rfl, _, rfl, ifb (fun h => ?_) (fun h => ?_)⟩
      · have h2' : 128 ≤ o := of_decide_eq_true h
        rw [if_pos h2'] at q
        refine ⟨_, rfl, r, dx, _, rfl, e, rfl, r, a, os, k, 6, 128, 0, 9999, rfl, R, by decide, by decide, ?_⟩
        refine res_map q (fun _ => rfl) fun z v H1 hz b1 R1 hv go => ?_
        have hb := takeNum_bound os 6 128 0 9999 k hos z.1 z.2 hz
        cases hv
        refine ⟨by show 2 ≤ sizeLine; decide, fun p hp => go _ _ (Same.new hp) ⟨p, rfl, .inl (.inl ?_)⟩⟩
        rw [upd_same]
        show some (HO.tup [.str "entry", .int z.1]) = some (HO.tup [.str "entry", .int (z.1.toNat : Nat)])
        rw [Int.toNat_of_nonneg hb.1]
      · have h2' : ¬ 128 ≤ o := of_decide_eq_false h
        rw [if_neg h2'] at q
        refine ⟨_, rfl, r, dx, _, rfl, e, rfl, r, a, os, k, 5, 64, rfl, R, by decide, ?_⟩
        refine res_map q (fun _ => rfl) fun z v H1 hz b1 R1 hv go => ?_
        cases hv
        refine ⟨by show 2 ≤ sizeLine; decide, fun p hp => go _ _ (Same.new hp) ⟨p, rfl, .inl (.inl upd_same)⟩⟩
theorem ok_take_instruction (T : Txt K mg) : FnOk P w K mg base (CX P w) 9 T.f_take_instruction T.d_take_instruction ["reader"] (sp_take K T.C_Reader T.C_NoOctets takeIns (rIns K)) := by
  refine T.F_take_instruction.okX sc_take_instruction (fun vs H Q E h => ?_) (fun cdv A outer s H vs Q E hr h => ?_)
  · obtain ⟨r, a, os, k, rfl, _⟩ := h
    rfl
  · obtain ⟨r, a, os, k, rfl, R, q⟩ := h
    obtain ⟨dx, e⟩ := R.ex
    refine ⟨_, (pss_cons (ps_set (i := 1) sc_take_instruction.nd rfl (Or.inl rfl) (pe_meth0 (pv 0) T.cl_Reader T.m_Reader_look (ok_Reader_look T) (hr.mono (by decide)) T.b_Reader_look .nil (passes_call (takes_of rfl rfl rfl rfl) (fun _ _ _ _ h => h))))
      (pss_cons (ps_if (pt_cmpR op_lt (pv 1) pe_int (nomark _)) (pss_one (ps_ret (pe_tup (pa_cons pe_str (pa_cons (pe_meth (pv 0) T.cl_Reader T.m_Reader_take_number (ok_Reader_take_number T) (hr.mono (by decide)) T.b_Reader_take_number .nil (passes_call (takes_of rfl rfl rfl rfl) (fun _ _ _ _ h => h)) (pa_cons pe_int (pa_cons pe_int (pa_cons pe_int (pa_cons (pe_glob (v := .int 9999) rfl T.g_NUMBER_MOST ⟨_, rfl⟩) pa_nil))))) pa_nil))))) pss_nil)
      (pss_cons (ps_if (pt_cmpR op_lt (pv 1) pe_int (nomark _)) (pss_one (ps_ret (pe_tup (pa_cons pe_str (pa_cons (pe_meth (pv 0) T.cl_Reader T.m_Reader_take_number (ok_Reader_take_number T) (hr.mono (by decide)) T.b_Reader_take_number .nil (passes_call (takes_of rfl rfl rfl rfl) (fun _ _ _ _ h => h)) (pa_cons pe_int (pa_cons pe_int (pa_cons pe_int (pa_cons (pe_glob (v := .int 9999) rfl T.g_NUMBER_MOST ⟨_, rfl⟩) pa_nil))))) pa_nil))))) pss_nil)
      (pss_cons (ps_asg (pe_call (ok_take_source T) (hr.mono (by decide)) rfl T.g_take_source T.F_take_source.kp T.b_take_source .nil (passes_call (takes_of rfl rfl rfl rfl) (fun _ _ _ _ h => h)) (pa_cons (pv 0) pa_nil)) (pg_tup rfl (pgs_cons (pg_name (i := 2) sc_take_instruction.nd rfl (Or.inl rfl)) (pgs_cons (pg_name (i := 3) sc_take_instruction.nd rfl (Or.inl rfl)) pgs_nil))))
      (pss_one (ps_ret (pe_tup (pa_cons (pv 2) (pa_cons (pv 3) (pa_cons (pe_meth0 (pv 0) T.cl_Reader T.m_Reader_take_value (ok_Reader_take_value T) (hr.mono (by decide)) T.b_Reader_take_value .nil (passes_call (takes_of rfl rfl rfl rfl) (fun _ _ _ _ h => h))) pa_nil)))))))))), ?_⟩
    have hos : ∀ o ∈ os, 0 ≤ o := fun o ho => (R.lt o ho).1
    refine ⟨_, rfl, r, dx, _, rfl, e, rfl, r, a, os, k, rfl, R, fun hn => ?_, fun o ho => ?_⟩
    · rw [takeIns, hn] at q
      exact q
    rw [takeIns, ho] at q
    dsimp only at q
    refine ⟨_, rfl, _, _, rfl, rfl, _, rfl, ifb (fun h => ?_) (fun h => ?_)⟩
    · have h' : o < 32 := of_decide_eq_true h
      rw [if_pos h'] at q
      refine ⟨_, rfl, r, dx, _, rfl, e, rfl, r, a, os, k, 5, 0, 0, 9999, rfl, R, by decide, by decide, ?_⟩
      refine res_map q (fun _ => rfl) fun z v H1 hz b1 R1 hv go => ?_
      have hb := takeNum_bound os 5 0 0 9999 k hos z.1 z.2 hz
      cases hv
      refine ⟨by show 2 ≤ sizeLine; decide, fun p hp => go _ _ (Same.new hp) ⟨p, rfl, .inl (.inl ?_)⟩⟩
      rw [upd_same]
      show some (HO.tup [.str "again", .int z.1]) = some (HO.tup [.str "again", .int (z.1.toNat : Nat)])
      rw [Int.toNat_of_nonneg hb.1]
    · have h' : ¬ o < 32 := of_decide_eq_false h
      rw [if_neg h'] at q
      refine ⟨_, rfl, _, _, rfl, rfl, _, rfl, ifb (fun h => ?_) (fun h => ?_)⟩
      · have h2' : o < 64 := of_decide_eq_true h
        rw [if_pos h2'] at q
        refine ⟨_, rfl, r, dx, _, rfl, e, rfl, r, a, os, k, 5, 32, 0, 9999, rfl, R, by decide, by decide, ?_⟩
        refine res_map q (fun _ => rfl) fun z v H1 hz b1 R1 hv go => ?_
        have hb := takeNum_bound os 5 32 0 9999 k hos z.1 z.2 hz
        cases hv
        refine ⟨by show 2 ≤ sizeLine; decide, fun p hp => go _ _ (Same.new hp) ⟨p, rfl, .inl (.inl ?_)⟩⟩
        rw [upd_same]
        show some (HO.tup [.str "limit", .int z.1]) = some (HO.tup [.str "limit", .int (z.1.toNat : Nat)])
        rw [Int.toNat_of_nonneg hb.1]
      · have h2' : ¬ o < 64 := of_decide_eq_false h
        rw [if_neg h2'] at q
        refine ⟨_, rfl, r, a, os, k, rfl, R, ?_⟩
        revert q
        cases takeSrc os k with
        | error e => exact fun q => q
        | ok z =>
          obtain ⟨sv, k1⟩ := z
          intro q v H1 b1 R1 hv
          dsimp only at q
          obtain ⟨t, rfl, ht⟩ := hv
          obtain ⟨dx1, e1⟩ := R1.ex
          have q1 := q.pre b1
          have fin : ∀ (c : Str) (u : V) (Q' : VK), srcVs sv = [.str c, u] → (∀ v' H', (∃ x, v' = .str x ∧ ∀ t' H2, Same H' H2 → SqT K H2 t' [.str c, u, .str x] → Q (.ref t') H2) → Q' v' H') → RdRes K T.C_Reader T.C_NoOctets r a os H1 Q' E rStr (takeStr os 7 0 0 40 k1) := by
            intro c u Q' hsv hq
            refine res_map q1 (fun _ => rfl) fun z v H2 hz b2 R2 hv go => ?_
            cases hv
            refine hq _ _ ⟨z.1, rfl, fun t' H3 s3 ht' => go _ _ s3 ⟨t', rfl, ?_⟩⟩
            have : (srcIns z.1 sv).vs = [.str c, u, .str z.1] := by
              rcases sv with y | ⟨b, n⟩
              · cases hsv; rfl
              · cases b <;> (cases hsv; rfl)
            rw [this]
            exact ht'
          rcases sv with y | ⟨b, n⟩
          · refine ⟨t, _, rfl, ht, rfl, ⟨_, _, rfl, ⟨_, _, rfl, rfl, ?_⟩⟩⟩
            refine ⟨_, rfl, _, rfl, _, rfl, r, dx1, _, rfl, e1, rfl, r, a, os, k1, rfl, R1, fin _ _ _ rfl ?_⟩
            rintro v' H' ⟨x, rfl, hq⟩
            exact ⟨by show 3 ≤ sizeLine; decide, fun p hp => hq p _ (Same.new hp) (.inl (.inl upd_same))⟩
          · cases b
            · refine ⟨t, _, rfl, ht, rfl, ⟨_, _, rfl, ⟨_, _, rfl, rfl, ?_⟩⟩⟩
              refine ⟨_, rfl, _, rfl, _, rfl, r, dx1, _, rfl, e1, rfl, r, a, os, k1, rfl, R1, fin _ _ _ rfl ?_⟩
              rintro v' H' ⟨x, rfl, hq⟩
              exact ⟨by show 3 ≤ sizeLine; decide, fun p hp => hq p _ (Same.new hp) (.inl (.inl upd_same))⟩
            · refine ⟨t, _, rfl, ht, rfl, ⟨_, _, rfl, ⟨_, _, rfl, rfl, ?_⟩⟩⟩
              refine ⟨_, rfl, _, rfl, _, rfl, r, dx1, _, rfl, e1, rfl, r, a, os, k1, rfl, R1, fin _ _ _ rfl ?_⟩
              rintro v' H' ⟨x, rfl, hq⟩
              exact ⟨by show 3 ≤ sizeLine; decide, fun p hp => hq p _ (Same.new hp) (.inl (.inl upd_same))⟩

theorem ok_take_answer (T : Txt K mg) : FnOk P w K mg base (CX P w) 6 T.f_take_answer T.d_take_answer ["reader"] (sp_take K T.C_Reader T.C_NoOctets takeAns (rAns K)) := by
  refine T.F_take_answer.okX sc_take_answer (fun vs H Q E h => ?_) (fun cdv A outer s H vs Q E hr h => ?_)
  · obtain ⟨r, a, os, k, rfl, _⟩ := h
    rfl
  · obtain ⟨r, a, os, k, rfl, R, q⟩ := h
    obtain ⟨dx, e⟩ := R.ex
    refine ⟨_, (pss_cons (ps_set (i := 1) sc_take_answer.nd rfl (Or.inl rfl) (pe_meth0 (pv 0) T.cl_Reader T.m_Reader_look (ok_Reader_look T) (hr.mono (by decide)) T.b_Reader_look .nil (passes_call (takes_of rfl rfl rfl rfl) (fun _ _ _ _ h => h))))
      (pss_cons (ps_if (pt_cmpR op_ge (pv 1) pe_int (nomark _)) (pss_one (ps_ret (pe_tup (pa_cons pe_str (pa_cons (pe_meth (pv 0) T.cl_Reader T.m_Reader_take_number (ok_Reader_take_number T) (hr.mono (by decide)) T.b_Reader_take_number .nil (passes_call (takes_of rfl rfl rfl rfl) (fun _ _ _ _ h => h)) (pa_cons pe_int (pa_cons pe_int (pa_cons pe_int (pa_cons (pe_glob (v := .int 20) rfl T.g_STREAM_MOST ⟨_, rfl⟩) pa_nil))))) pa_nil))))) pss_nil)
      (pss_cons (ps_if (pt_cmpR op_ge (pv 1) pe_int (nomark _)) (pss_one (ps_ret (pe_tup (pa_cons pe_str (pa_cons (pe_meth (pv 0) T.cl_Reader T.m_Reader_take_number (ok_Reader_take_number T) (hr.mono (by decide)) T.b_Reader_take_number .nil (passes_call (takes_of rfl rfl rfl rfl) (fun _ _ _ _ h => h)) (pa_cons pe_int (pa_cons pe_int (pa_cons pe_int (pa_cons (pe_glob (v := .int 20) rfl T.g_STREAM_MOST ⟨_, rfl⟩) pa_nil))))) pa_nil))))) pss_nil)
      (pss_one (ps_ret (pe_tup (pa_cons pe_str (pa_cons (pe_meth (pv 0) T.cl_Reader T.m_Reader_take_number (ok_Reader_take_number T) (hr.mono (by decide)) T.b_Reader_take_number .nil (passes_call (takes_of rfl rfl rfl rfl) (fun _ _ _ _ h => h)) (pa_cons pe_int (pa_cons pe_int (pa_cons pe_int (pa_cons (pe_glob (v := .int 9999) rfl T.g_NUMBER_MOST ⟨_, rfl⟩) pa_nil))))) pa_nil)))))))), ?_⟩
    have hos : ∀ o ∈ os, 0 ≤ o := fun o ho => (R.lt o ho).1
    refine ⟨_, rfl, r, dx, _, rfl, e, rfl, r, a, os, k, rfl, R, fun hn => ?_, fun o ho => ?_⟩
    · rw [takeAns, hn] at q
      exact q
    rw [takeAns, ho] at q
    dsimp only at q
    refine ⟨_, rfl, _, _, rfl, rfl, _, rfl, ifb (fun h => ?_) (fun h => ?_)⟩
    · have h' : 128 ≤ o := of_decide_eq_true h
      rw [if_pos h'] at q
      refine ⟨_, rfl, r, dx, _, rfl, e, rfl, r, a, os, k, 7, 128, 0, 20, rfl, R, by decide, by decide, ?_⟩
      refine res_map q (fun _ => rfl) fun z v H1 hz b1 R1 hv go => ?_
      have hb := takeNum_bound os 7 128 0 20 k hos z.1 z.2 hz
      cases hv
      refine ⟨by show 2 ≤ sizeLine; decide, fun p hp => go _ _ (Same.new hp) ⟨p, rfl, .inl (.inl ?_)⟩⟩
      rw [upd_same]
      show some (HO.tup [.str "done", .int z.1]) = some (HO.tup [.str "done", .int (z.1.toNat : Nat)])
      rw [Int.toNat_of_nonneg (by omega)]
    · have h' : ¬ 128 ≤ o := of_decide_eq_false h
      rw [if_neg h'] at q
      refine ⟨_, rfl, _, _, rfl, rfl, _, rfl, ifb (fun h => ?_) (fun h => ?_)⟩
      · have h2' : 64 ≤ o := of_decide_eq_true h
        rw [if_pos h2'] at q
        refine ⟨_, rfl, r, dx, _, rfl, e, rfl, r, a, os, k, 6, 64, 0, 20, rfl, R, by decide, by decide, ?_⟩
        refine res_map q (fun _ => rfl) fun z v H1 hz b1 R1 hv go => ?_
        have hb := takeNum_bound os 6 64 0 20 k hos z.1 z.2 hz
        cases hv
        refine ⟨by show 2 ≤ sizeLine; decide, fun p hp => go _ _ (Same.new hp) ⟨p, rfl, .inl (.inl ?_)⟩⟩
        rw [upd_same]
        show some (HO.tup [.str "cancelled", .int z.1]) = some (HO.tup [.str "cancelled", .int (z.1.toNat : Nat)])
        rw [Int.toNat_of_nonneg (by omega)]
      · have h2' : ¬ 64 ≤ o := of_decide_eq_false h
        rw [if_neg h2'] at q
        refine ⟨_, rfl, r, dx, _, rfl, e, rfl, r, a, os, k, 6, 0, 1, 9999, rfl, R, by decide, by decide, ?_⟩
        refine res_map q (fun _ => rfl) fun z v H1 hz b1 R1 hv go => ?_
        have hb := takeNum_bound os 6 0 1 9999 k hos z.1 z.2 hz
        cases hv
        refine ⟨by show 2 ≤ sizeLine; decide, fun p hp => go _ _ (Same.new hp) ⟨p, rfl, .inl (.inl ?_)⟩⟩
        rw [upd_same]
        show some (HO.tup [.str "received", .int z.1]) = some (HO.tup [.str "received", .int (z.1.toNat : Nat)])
        rw [Int.toNat_of_nonneg (by omega)]
theorem ok_read_instruction (T : Txt K mg) : FnOk P w K mg base (CX P w) 10 T.f_read_instruction T.d_read_instruction ["octets"] (sp_read K T.C_NoOctets T.C_NoOctetList takeIns (rIns K)) := by
  refine T.F_read_instruction.okX sc_read_instruction (fun vs H Q E h => ?_) (fun cdv A outer s H vs Q E hr h => ?_)
  · obtain ⟨v, rfl, _⟩ := h
    rfl
  · obtain ⟨v, rfl, h⟩ := h
    refine ⟨_, (pss_cons (ps_expr (pe_call (ok_check_octets T) (hr.mono (by decide)) rfl T.g_check_octets T.F_check_octets.kp T.b_check_octets .nil (passes_call (takes_of rfl rfl rfl rfl) (fun _ _ _ _ h => h)) (pa_cons (pv 0) pa_nil)))
      (pss_cons (ps_set (i := 1) sc_read_instruction.nd rfl (Or.inl rfl) (pe_make T.M_Reader (ok_Reader_init T) (hr.mono (by decide)) rfl T.g_Reader T.b_Reader_init .nil pass0 (pa_cons (pv 0) pa_nil)))
      (pss_cons (ps_set (i := 2) sc_read_instruction.nd rfl (Or.inl rfl) (pe_call (ok_take_instruction T) (hr.mono (by decide)) rfl T.g_take_instruction T.F_take_instruction.kp T.b_take_instruction .nil (passes_call (takes_of rfl rfl rfl rfl) (fun _ _ _ _ h => h)) (pa_cons (pv 1) pa_nil)))
      (pss_cons (ps_expr (pe_meth0 (pv 1) T.cl_Reader T.m_Reader_finish (ok_Reader_finish T) (hr.mono (by decide)) T.b_Reader_finish .nil (passes_call (takes_of rfl rfl rfl rfl) (fun _ _ _ _ h => h))))
      (pss_one (ps_ret (pv 2))))))), ?_⟩
    rcases h with ⟨a, xs, rfl, hs, hl, hk, q⟩ | ⟨t, k, ht, q⟩
    · refine ⟨_, rfl, _, rfl, .inl ⟨a, xs, rfl, SqL.of hs, hl, hk, fun H1 s1 => ifb (fun h => ?_) (fun h => ?_)⟩⟩
      · rw [if_pos h] at q
        obtain ⟨os, rfl, q⟩ := q
        obtain ⟨os', he, hlt⟩ := oct_list h
        have : os = os' := List.map_inj_right (f := V.int) (fun _ _ z => by injection z) |>.mp he
        subst this
        have ha1 := s1 _ _ hs
        refine ⟨_, rfl, fun x dx hx hdx hne => ?_⟩
        refine ⟨x, a, T.C_Reader, dx, rfl, upd_same, T.cl_Reader, T.nA_Reader_octets, T.nA_Reader_place, fun H2 hoth hx2 => ⟨rfl, ?_⟩⟩
        have s2 : Same H1 H2 := fun b o hb => by
          have n1 : b ≠ x := ne_of_none hb hx
          have n2 : b ≠ dx := ne_of_none hb hdx
          rw [hoth b n1, upd_ne n1, upd_ne n2]
          exact hb
        have hax : a ≠ x := ne_of_none ha1 hx
        have S := s1.trans s2
        have R0 : Rd K T.C_Reader H2 x a os 0 := ⟨⟨dx, hx2⟩, SqL.of (s2 _ _ ha1), hax, hlt, by rw [List.length_map] at hl; exact hl, Nat.zero_le _⟩
        have hxH : H x = none := s1.free hx
        refine ⟨_, rfl, x, a, os, 0, rfl, R0, ?_⟩
        unfold whole at q
        revert q
        cases takeIns os 0 with
        | error e => exact fun q d H3 b3 hd => q d H3 (same_but hxH S b3) hd
        | ok z =>
          intro q v H3 b3 R3 hv
          obtain ⟨dx3, e3⟩ := R3.ex
          dsimp only at q
          have S3 := same_but hxH S b3
          refine ⟨_, rfl, x, dx3, _, rfl, e3, rfl, x, a, os, z.2, rfl, R3, fun hne d H4 b4 hd => ?_, fun he => ?_⟩
          · rw [if_neg hne] at q
            exact q d H4 (same_but hxH S3 b4) hd
          · rw [if_pos he] at q
            exact ⟨_, rfl, q v H3 S3 hv⟩
      · rw [if_neg (by rw [h]; decide)] at q
        exact q H1 s1
    · exact ⟨_, rfl, _, rfl, .inr ⟨t, k, ht, fun H1 s1 => q H1 s1⟩⟩
theorem ok_read_answer (T : Txt K mg) : FnOk P w K mg base (CX P w) 7 T.f_read_answer T.d_read_answer ["octets"] (sp_read K T.C_NoOctets T.C_NoOctetList takeAns (rAns K)) := by
  refine T.F_read_answer.okX sc_read_answer (fun vs H Q E h => ?_) (fun cdv A outer s H vs Q E hr h => ?_)
  · obtain ⟨v, rfl, _⟩ := h
    rfl
  · obtain ⟨v, rfl, h⟩ := h
    refine ⟨_, (pss_cons (ps_expr (pe_call (ok_check_octets T) (hr.mono (by decide)) rfl T.g_check_octets T.F_check_octets.kp T.b_check_octets .nil (passes_call (takes_of rfl rfl rfl rfl) (fun _ _ _ _ h => h)) (pa_cons (pv 0) pa_nil)))
      (pss_cons (ps_set (i := 1) sc_read_answer.nd rfl (Or.inl rfl) (pe_make T.M_Reader (ok_Reader_init T) (hr.mono (by decide)) rfl T.g_Reader T.b_Reader_init .nil pass0 (pa_cons (pv 0) pa_nil)))
      (pss_cons (ps_set (i := 2) sc_read_answer.nd rfl (Or.inl rfl) (pe_call (ok_take_answer T) (hr.mono (by decide)) rfl T.g_take_answer T.F_take_answer.kp T.b_take_answer .nil (passes_call (takes_of rfl rfl rfl rfl) (fun _ _ _ _ h => h)) (pa_cons (pv 1) pa_nil)))
      (pss_cons (ps_expr (pe_meth0 (pv 1) T.cl_Reader T.m_Reader_finish (ok_Reader_finish T) (hr.mono (by decide)) T.b_Reader_finish .nil (passes_call (takes_of rfl rfl rfl rfl) (fun _ _ _ _ h => h))))
      (pss_one (ps_ret (pv 2))))))), ?_⟩
    rcases h with ⟨a, xs, rfl, hs, hl, hk, q⟩ | ⟨t, k, ht, q⟩
    · refine ⟨_, rfl, _, rfl, .inl ⟨a, xs, rfl, SqL.of hs, hl, hk, fun H1 s1 => ifb (fun h => ?_) (fun h => ?_)⟩⟩
      · rw [if_pos h] at q
        obtain ⟨os, rfl, q⟩ := q
        obtain ⟨os', he, hlt⟩ := oct_list h
        have : os = os' := List.map_inj_right (f := V.int) (fun _ _ z => by injection z) |>.mp he
        subst this
        have ha1 := s1 _ _ hs
        refine ⟨_, rfl, fun x dx hx hdx hne => ?_⟩
        refine ⟨x, a, T.C_Reader, dx, rfl, upd_same, T.cl_Reader, T.nA_Reader_octets, T.nA_Reader_place, fun H2 hoth hx2 => ⟨rfl, ?_⟩⟩
        have s2 : Same H1 H2 := fun b o hb => by
          have n1 : b ≠ x := ne_of_none hb hx
          have n2 : b ≠ dx := ne_of_none hb hdx
          rw [hoth b n1, upd_ne n1, upd_ne n2]
          exact hb
        have hax : a ≠ x := ne_of_none ha1 hx
        have S := s1.trans s2
        have R0 : Rd K T.C_Reader H2 x a os 0 := ⟨⟨dx, hx2⟩, SqL.of (s2 _ _ ha1), hax, hlt, by rw [List.length_map] at hl; exact hl, Nat.zero_le _⟩
        have hxH : H x = none := s1.free hx
        refine ⟨_, rfl, x, a, os, 0, rfl, R0, ?_⟩
        unfold whole at q
        revert q
        cases takeAns os 0 with
        | error e => exact fun q d H3 b3 hd => q d H3 (same_but hxH S b3) hd
        | ok z =>
          intro q v H3 b3 R3 hv
          obtain ⟨dx3, e3⟩ := R3.ex
          dsimp only at q
          have S3 := same_but hxH S b3
          refine ⟨_, rfl, x, dx3, _, rfl, e3, rfl, x, a, os, z.2, rfl, R3, fun hne d H4 b4 hd => ?_, fun he => ?_⟩
          · rw [if_neg hne] at q
            exact q d H4 (same_but hxH S3 b4) hd
          · rw [if_pos he] at q
            exact ⟨_, rfl, q v H3 S3 hv⟩
      · rw [if_neg (by rw [h]; decide)] at q
        exact q H1 s1
    · exact ⟨_, rfl, _, rfl, .inr ⟨t, k, ht, fun H1 s1 => q H1 s1⟩⟩

theorem ok_law_open (T : Txt K mg) : FnOk P w K mg base CX0 1 T.f_law_open T.d_law_open ["script"] (sp_law_open K) := by
  refine T.F_law_open.ok sc_law_open (fun vs H Q E h => ?_) (fun cdv A outer s H vs Q E hr h => ?_)
  · obtain ⟨a, ns, rfl, _⟩ := h
    rfl
  · obtain ⟨a, ns, rfl, hS, hl, q⟩ := h
    refine ⟨_, (pss_cons (ps_set (i := 1) sc_law_open.nd rfl (Or.inl rfl) (pe_callTy call_list_of rfl T.z_list boot_list (pa_cons (pe_slice sl_list (pv 0) po_none (po_some pe_int)) pa_nil)))
      (pss_cons (ps_for PassesOwn.never rfl (pi_enum rfl T.z_enumerate (pa_cons (pe_slice sl_list (pv 0) (po_some pe_int) (po_some pe_int)) pa_nil)) (pg_tup rfl (pgs_cons (pg_name (i := 2) sc_law_open.nd rfl (Or.inl rfl)) (pgs_cons (pg_name (i := 3) sc_law_open.nd rfl (Or.inl rfl)) pgs_nil)))
        (pss_one (ps_asg (pe_op op_add (pe_ix ix_list (pv 1) (pe_op op_mod (pv 2) pe_int) (fun _ _ => rfl)) (pv 3)) (pg_sub (pv 1) (pe_op op_mod (pv 2) pe_int) set_list))))
      (pss_one (ps_ret (pe_lst (pa_cons (pv 1) (pa_cons pe_int (pa_cons pe_int pa_nil)))))))), ?_⟩
    refine ⟨_, rfl, _, rfl, a, _, rfl, hS, fun p1 hp1 => ?_⟩
    refine ⟨p1, _, rfl, .inl (SqL.of upd_same), fun c hc => ?_⟩
    have s1 : Same H (upd (upd H p1 (.lst (cutV (ns.map V.int) none (some 12)))) c (.lst (cutV (ns.map V.int) none (some 12)))) := (Same.new hp1).trans (Same.new hc)
    have hcc : H c = none := (Same.new hp1).free hc
    refine ⟨_, rfl, _, rfl, _, rfl, a, _, rfl, s1.seq hS, fun p2 hp2 => ?_⟩
    have npc : c ≠ p2 := ne_of_none upd_same hp2
    have s2 := s1.trans (Same.new (o := .lst (cutV (ns.map V.int) (some 12) (some 63))) hp2)
    refine ⟨p2, _, rfl, SqL.of upd_same, ?_⟩
    generalize hH2 : upd (upd (upd H p1 (.lst (cutV (ns.map V.int) none (some 12)))) c (.lst (cutV (ns.map V.int) none (some 12)))) p2 (.lst (cutV (ns.map V.int) (some 12) (some 63))) = H2 at s2 ⊢
    have gc : H2 c = some (.lst ((ns.take 12).map V.int)) := by
      rw [← hH2, upd_ne npc, upd_same]
      have := cut_to (ns.map V.int) 12
      rw [List.map_take]
      exact congrArg (fun l => some (HO.lst l)) this
    have g2 : H2 p2 = some (.lst (cutV (ns.map V.int) (some 12) (some 63))) := by rw [← hH2, upd_same]
    have el : (cutV (ns.map V.int) (some 12) (some 63)) = ((ns.drop 12).take 51).map V.int := by
      have := cut_mid (ns.map V.int) 12 63
      rw [List.map_take, List.map_drop]
      exact this
    rw [el] at g2
    clear hH2 el
    refine for_it (walk_enum (K := K) (a := p2) (xs := ((ns.drop 12).take 51).map V.int)) (fun i σ H' => ∃ (cs : List Int) (x y : Option V), σ = [some (.ref a), some (.ref c), x, y] ∧ But c H2 H' ∧ H' c = some (.lst (cs.map V.int)) ∧ cs.length = (ns.take 12).length)
      ⟨ns.take 12, none, none, rfl, But.refl _ _, gc, rfl⟩ (fun i σ H' _ ⟨_, _, _, _, b, _⟩ => b.seq (Ne.symm npc) (SqL.of g2)) ?_ ?_
    · rintro i x σ H' H'' hi ⟨cs, v1, v2, rfl, b, hcs, hlen⟩ ⟨t, z1, z2, rfl, ht, rfl, e1, e2⟩
      cases e1
      have e3 : ∃ z : Int, z2 = .int z := by
        replace e2 : (((ns.drop 12).take 51).map V.int)[i]? = some z2 := e2
        rw [List.getElem?_map] at e2
        cases e4 : ((ns.drop 12).take 51)[i]? with
        | none => rw [e4] at e2; cases e2
        | some z => rw [e4] at e2; exact ⟨z, (Option.some.inj e2).symm⟩
      obtain ⟨z, rfl⟩ := e3
      have h12 : cs.length = 12 := by
        rw [hlen]
        rw [List.length_map, List.length_take, List.length_drop] at hi
        rw [List.length_take]
        omega
      have hm : i % 12 < cs.length := by omega
      have nct : c ≠ t := ne_of_none hcs ht
      have hcs' : upd H' t (.tup [.int (i : Nat), .int z]) c = some (.lst (cs.map V.int)) := by rw [upd_ne nct]; exact hcs
      refine ⟨t, _, rfl, SqT.of upd_same, rfl, _, _, rfl, _, _, rfl, rfl, ?_⟩
      have em : ((i : Nat) : Int) % 12 = ((i % 12 : Nat) : Int) := by omega
      have ea : atI (cs.map V.int) (((i : Nat) : Int) % 12) = some (.int cs[i % 12]) := by
        rw [em]
        exact atI_nat (by rw [List.getElem?_map, List.getElem?_eq_getElem hm]; rfl)
      refine ⟨_, rfl, _, rfl, _, _, rfl, rfl, (by show (0 : Int) < 12; decide), c, _, _, _, rfl, rfl, SqL.of hcs', ea, _, rfl, _, _, rfl, rfl, ?_⟩
      refine ⟨_, rfl, _, rfl, _, _, rfl, rfl, (by show (0 : Int) < 12; decide), c, _, _, i % 12, rfl, rfl, hcs', ?_, ?_⟩
      · show ixN (cs.map V.int).length (((i : Nat) : Int) % 12) = _
        rw [em]
        exact Evl.ixN_nat (by rw [List.length_map]; exact hm)
      · refine ⟨cs.set (i % 12) (cs[i % 12] + z), _, _, rfl, (b.trans (But.new ht)).trans But.set, ?_, by rw [List.length_set]; exact hlen⟩
        rw [upd_same, ← List.map_set]
    · rintro σ H' ⟨cs, v1, v2, rfl, b, hcs, hlen⟩
      refine ⟨_, rfl, (by show 3 ≤ sizeLine; decide), fun p hp => ?_⟩
      have s3 : Same H H' := fun u o e => b u o (ne_of_none e hcc) (s2 u o e)
      refine q p c _ (s3.free hp) (s3.put (s3.free hp)) ⟨0, 0, cs, upd_same, ?_, ne_of_none hcs hp, ?_, Nat.le_refl _⟩
      · rw [upd_ne (ne_of_none hcs hp)]; exact hcs
      · rw [hlen, List.length_take]; omega
theorem ok_law_spread (T : Txt K mg) : FnOk P w K mg base CX0 1 T.f_law_spread T.d_law_spread ["cell", "at"] sp_law_spread := by
  refine T.F_law_spread.ok sc_law_spread (fun vs H Q E h => ?_) (fun cdv A outer s H vs Q E hr h => ?_)
  · obtain ⟨c, a, rfl, _⟩ := h
    rfl
  · obtain ⟨c, a, rfl, ha, q⟩ := h
    refine ⟨_, (pss_cons (ps_if (pt_cmpR op_ge (pv 0) (pe_op op_pow pe_int pe_int) (nomark _)) (pss_one (ps_ret (pv 0))) pss_nil)
      (pss_cons (ps_set (i := 2) sc_law_spread.nd rfl (Or.inl rfl) (pe_lst (pa_cons pe_int (pa_cons pe_int (pa_cons pe_int (pa_cons pe_int (pa_cons pe_int (pa_cons pe_int (pa_cons pe_int (pa_cons pe_int pa_nil))))))))))
      (pss_cons (ps_set (i := 2) sc_law_spread.nd rfl (Or.inl rfl) (pe_op op_cat (pv 2) (pe_lst (pa_cons pe_int (pa_cons pe_int (pa_cons pe_int (pa_cons pe_int (pa_cons pe_int pa_nil))))))))
      (Evl.pss_cut (ps_set (i := 3) sc_law_spread.nd rfl (Or.inl rfl) (pe_op op_mod (pe_op op_pow (pe_op op_add (pe_op op_add (pe_op op_mul (pe_op op_mod (pv 0) pe_int) (pe_op op_add (pe_op op_mul pe_int (pv 1)) pe_int)) (pe_op op_mul (pv 1) pe_int)) pe_int) pe_int) (pe_ix ix_list (pv 2) (pe_op op_mod (pv 1) pe_int) (fun _ _ => rfl))))
      (Evl.pss_cut (ps_set (i := 4) sc_law_spread.nd rfl (Or.inl rfl) (pe_op op_mod (pe_op op_pow (pe_op op_add (pe_op op_add (pe_op op_mul (pv 3) (pe_op op_add (pv 1) pe_int)) (pe_op op_mod (pv 0) pe_int)) pe_int) pe_int) (pe_ix ix_list (pv 2) (pe_op op_mod (pe_op op_add (pv 1) pe_int) pe_int) (fun _ _ => rfl))))
      (Evl.pss_cut (ps_set (i := 5) sc_law_spread.nd rfl (Or.inl rfl) (pe_op op_mod (pe_op op_pow (pe_op op_add (pe_op op_add (pv 4) (pe_op op_mod (pv 3) pe_int)) (pv 1)) pe_int) (pe_ix ix_list (pv 2) (pe_op op_mod (pe_op op_add (pv 1) pe_int) pe_int) (fun _ _ => rfl))))
      (pss_one (ps_ret (pe_op op_add (pe_op op_mul (pe_op op_add (pe_op op_mul (pv 3) pe_int) (pv 4)) pe_int) (pv 5)))))))))), ?_⟩
    refine ⟨_, rfl, _, _, rfl, rfl, ⟨by decide, by decide, by decide⟩, _, _, rfl, rfl, _, rfl, ?_⟩
    refine ifb (fun _ => ?_) (fun _ => ?_)
    · exact ⟨_, rfl, q c H (Same.refl _)⟩
    refine ⟨by show 8 ≤ sizeLine; decide, fun p1 hp1 => ?_⟩
    refine ⟨_, rfl, by show 5 ≤ sizeLine; decide, fun p2 hp2 => ?_⟩
    have n12 : p1 ≠ p2 := ne_of_none upd_same hp2
    refine ⟨p1, p2, _, _, rfl, rfl, by rw [upd_ne n12]; exact upd_same, upd_same, by show 13 ≤ sizeLine; decide, fun p3 hp3 => ?_⟩
    have s3 : Same H _ := ((Same.new hp1).trans (Same.new hp2)).trans (Same.new (o := .lst (primes.map V.int)) hp3)
    have g3 : upd (upd (upd H p1 (.lst [.int 2147483629, .int 2147483587, .int 2147483579, .int 2147483563, .int 2147483549, .int 2147483543, .int 2147483497, .int 2147483489])) p2 (.lst [.int 2147483477, .int 2147483423, .int 2147483399, .int 2147483353, .int 2147483323])) p3 (.lst (primes.map V.int)) p3 = some (.lst (primes.map V.int)) := upd_same
    have hm1 : 0 ≤ c % 1000000007 ∧ c % 1000000007 < 1000000007 := ⟨Int.emod_nonneg _ (by decide), Int.emod_lt_of_pos _ (by decide)⟩
    have hm2 : 0 ≤ c % 65537 ∧ c % 65537 < 65537 := ⟨Int.emod_nonneg _ (by decide), Int.emod_lt_of_pos _ (by decide)⟩
    have ix : ∀ k : Nat, ∃ r : Int, atI (primes.map V.int) (((k : Nat) : Int) % 13) = some (.int r) ∧ 0 < r ∧ r < 2147483648 := fun k => primes_at (Int.emod_nonneg _ (by decide)) (Int.emod_lt_of_pos _ (by decide))
    obtain ⟨r1, i1, r1p, r1b⟩ := ix a
    obtain ⟨r2, i2, r2p, r2b⟩ := ix (a + 5)
    obtain ⟨r3, i3, r3p, r3b⟩ := ix (a + 7)
    rw [Int.natCast_add] at i2 i3
    have e18 : (10 : Int) ^ 18 = 1000000000000000000 := by decide
    have b1 := mul_bd (A := 1000000007) (B := 2069069) hm1.1 (Int.le_of_lt hm1.2) (b := 2 * (a : Int) + 69069) (by omega) (by omega)
    refine ⟨fun σ' H' => ∃ one : Int, σ' = [some (.int c), some (.int (a : Nat)), some (.ref p3), some (.int one), none, none] ∧ (0 ≤ one ∧ one < 2147483648) ∧ H' p3 = some (.lst (primes.map V.int)) ∧ Same H H', ?_, ?_⟩
    · refine ⟨_, rfl, _, _, rfl, rfl, (by show (0 : Int) < 1000000007; decide), _, rfl, _, _, rfl, rfl, .inl ⟨by decide, by decide⟩, _, _, rfl, rfl, _, _, rfl, rfl, mul64 hm1.1 (by omega),
        _, rfl, _, _, rfl, rfl, .inr ⟨by decide, by decide⟩, _, _, rfl, rfl, _, _, rfl, rfl, _, _, rfl, rfl, ⟨by decide, by decide, pow_small (by omega) (by omega)⟩,
        _, rfl, _, rfl, _, _, rfl, rfl, (by show (0 : Int) < 13; decide), p3, _, _, _, rfl, rfl, SqL.of g3, i1, _, _, rfl, rfl, r1p, ?_⟩
      exact ⟨_, rfl, ⟨Int.emod_nonneg _ (by omega), Int.lt_trans (Int.emod_lt_of_pos _ r1p) r1b⟩, g3, s3⟩
    · rintro σ' H' ⟨one, rfl, hone, g3, s3⟩
      have b2 := mul_bd (A := 2147483648) (B := 1000003) hone.1 (Int.le_of_lt hone.2) (b := (a : Int) + 3) (by omega) (by omega)
      refine ⟨fun σ' H' => ∃ two : Int, σ' = [some (.int c), some (.int (a : Nat)), some (.ref p3), some (.int one), some (.int two), none] ∧ (0 ≤ two ∧ two < 2147483648) ∧ H' p3 = some (.lst (primes.map V.int)) ∧ Same H H', ?_, ?_⟩
      · refine ⟨_, rfl, _, rfl, _, _, rfl, rfl, _, _, rfl, rfl, mul64 hone.1 (by omega), _, rfl, _, _, rfl, rfl, (by show (0 : Int) < 65537; decide), _, _, rfl, rfl, _, _, rfl, rfl, _, _, rfl, rfl, ⟨by decide, by decide, pow_small (by omega) (by omega)⟩,
          _, rfl, _, rfl, _, _, rfl, rfl, _, _, rfl, rfl, (by show (0 : Int) < 13; decide), p3, _, _, _, rfl, rfl, SqL.of g3, i2, _, _, rfl, rfl, r2p, ?_⟩
        exact ⟨_, rfl, ⟨Int.emod_nonneg _ (by omega), Int.lt_trans (Int.emod_lt_of_pos _ r2p) r2b⟩, g3, s3⟩
      · rintro σ' H' ⟨two, rfl, htwo, g3, s3⟩
        have hm3 : 0 ≤ one % 1009 ∧ one % 1009 < 1009 := ⟨Int.emod_nonneg _ (by decide), Int.emod_lt_of_pos _ (by decide)⟩
        refine ⟨fun σ' H' => ∃ three : Int, σ' = [some (.int c), some (.int (a : Nat)), some (.ref p3), some (.int one), some (.int two), some (.int three)] ∧ Same H H', ?_, ?_⟩
        · refine ⟨_, rfl, _, rfl, _, _, rfl, rfl, (by show (0 : Int) < 1009; decide), _, _, rfl, rfl, _, rfl, _, _, rfl, rfl, _, _, rfl, rfl, ⟨by decide, by decide, pow_small (by omega) (by omega)⟩,
            _, rfl, _, rfl, _, _, rfl, rfl, _, _, rfl, rfl, (by show (0 : Int) < 13; decide), p3, _, _, _, rfl, rfl, SqL.of g3, i3, _, _, rfl, rfl, r3p, ?_⟩
          exact ⟨_, rfl, s3⟩
        · rintro σ' H' ⟨three, rfl, s3⟩
          refine ⟨_, rfl, _, _, rfl, rfl, .inr ⟨by decide, by decide⟩, _, rfl, _, _, rfl, rfl, _, _, rfl, rfl, .inr ⟨by decide, by decide⟩, _, rfl, _, _, rfl, rfl, ?_⟩
          exact q _ H' s3

theorem ok_law_take (T : Txt K mg) : FnOk P w K mg base CX0 2 T.f_law_take T.d_law_take ["pen", "amount"] sp_law_take := by
  refine T.F_law_take.ok sc_law_take (fun vs H Q E h => ?_) (fun cdv A outer s H vs Q E hr h => ?_)
  · obtain ⟨p, c, n, k, rfl, _⟩ := h
    rfl
  · obtain ⟨p, c, n, k, rfl, ⟨a, acc, ns, gp, gc, ncp, hns, han⟩, hk0, hk, hn, q⟩ := h
    refine ⟨_, (Evl.pss_cut (ps_if (pt_cmpR op_lt (pe_ix ix_list (pv 0) pe_int (fun _ _ => rfl)) (pv 1) (nomark _)) (pss_cons (ps_set (i := 2) sc_law_take.nd rfl (Or.inl rfl) (pe_ix ix_list (pv 0) pe_int (fun _ _ => rfl)))
      (pss_cons (ps_set (i := 3) sc_law_take.nd rfl (Or.inl rfl) pe_int)
      (Evl.pss_cut (ps_if (pt_cmpR op_lt (pv 2) (pe_callB call_len rfl T.z_len boot_len (pa_cons (pe_ix ix_list (pv 0) pe_int (fun _ _ => rfl)) pa_nil)) (nomark _)) (pss_one (ps_set (i := 3) sc_law_take.nd rfl (Or.inl rfl) (pe_ix ix_list (pe_ix ix_list (pv 0) pe_int (fun _ _ => rfl)) (pv 2) (fun _ _ => rfl)))) (pss_one (ps_if (pt_cmpR op_gt (pe_callB call_len rfl T.z_len boot_len (pa_cons (pe_ix ix_list (pv 0) pe_int (fun _ _ => rfl)) pa_nil)) pe_int (nomark _)) (pss_one (ps_set (i := 3) sc_law_take.nd rfl (Or.inl rfl) (pe_op op_mod (pe_ix ix_list (pe_ix ix_list (pv 0) pe_int (fun _ _ => rfl)) (pe_op op_mod (pe_op op_add (pe_op op_mul (pv 2) pe_int) pe_int) (pe_callB call_len rfl T.z_len boot_len (pa_cons (pe_ix ix_list (pv 0) pe_int (fun _ _ => rfl)) pa_nil))) (fun _ _ => rfl)) (pe_op op_add (pe_op op_pow pe_int pe_int) (pv 2))))) pss_nil)))
      (pss_cons (ps_asg (pe_op op_add (pv 2) pe_int) (pg_sub (pv 0) pe_int set_list))
      (pss_one (ps_asg (pe_call (ok_law_spread T) (hr.mono (by decide)) rfl T.g_law_spread T.F_law_spread.kp T.b_law_spread .nil pass0 (pa_cons (pv 3) (pa_cons (pv 2) pa_nil))) (pg_sub (pv 0) pe_int set_list))))))) pss_nil)
      (pss_cons (ps_set (i := 4) sc_law_take.nd rfl (Or.inl rfl) (pe_op op_mod (pe_ix ix_list (pv 0) pe_int (fun _ _ => rfl)) (pv 1)))
      (pss_cons (ps_asg (pe_op op_fdiv (pe_ix ix_list (pv 0) pe_int (fun _ _ => rfl)) (pv 1)) (pg_sub (pv 0) pe_int set_list))
      (pss_one (ps_ret (pv 4)))))), ?_⟩
    refine ⟨fun σ' H' => ∃ (a' : Nat) (acc' : Int) (x y : Option V), σ' = [some (.ref p), some (.int k), x, y, none] ∧ But p H H' ∧ H' p = some (.lst [.ref c, .int (a' : Nat), .int acc']) ∧ H' c = some (.lst (ns.map V.int)) ∧ a' ≤ n + 1, ?_, ?_⟩
    · refine ⟨_, rfl, p, _, _, _, rfl, rfl, SqL.of gp, rfl, _, rfl, _, _, rfl, rfl, _, rfl, ?_⟩
      refine ifb (fun _ => ?_) (fun _ => ?_)
      · refine ⟨_, rfl, p, _, _, _, rfl, rfl, SqL.of gp, rfl, ?_⟩
        refine ⟨fun σ' H' => ∃ z : Int, σ' = [some (.ref p), some (.int k), some (.int (a : Nat)), some (.int z), none] ∧ H = H', ?_, ?_⟩
        · refine ⟨_, rfl, _, rfl, p, _, _, _, rfl, rfl, SqL.of gp, rfl, _, _, rfl, .inl ⟨_, SqL.of gc, rfl⟩, _, _, rfl, rfl, _, rfl, ?_⟩
          rw [List.length_map]
          by_cases c1 : a < ns.length
          · refine ifT (decide_eq_true (by omega)) ?_
            refine ⟨_, rfl, p, _, _, _, rfl, rfl, SqL.of gp, rfl, _, rfl, c, _, _, _, rfl, rfl, SqL.of gc, atI_nat (j := a) (v := .int ns[a]) (by rw [List.getElem?_map, List.getElem?_eq_getElem c1]; rfl), ?_⟩
            exact ⟨_, rfl, rfl⟩
          · refine ifF (decide_eq_false (by omega)) ?_
            refine ⟨_, rfl, p, _, _, _, rfl, rfl, SqL.of gp, rfl, _, _, rfl, .inl ⟨_, SqL.of gc, rfl⟩, _, _, rfl, rfl, _, rfl, ?_⟩
            rw [List.length_map]
            by_cases c2 : 0 < ns.length
            · refine ifT (decide_eq_true (by omega)) ?_
              have hm : (((a : Nat) : Int) * 5 + 3) % ((ns.length : Nat) : Int) = (((a * 5 + 3) % ns.length : Nat) : Int) := by
                rw [Int.natCast_emod]; rfl
              have hlt : (a * 5 + 3) % ns.length < ns.length := Nat.mod_lt _ c2
              obtain ⟨w0, ea⟩ : ∃ w0 : Int, atI (ns.map V.int) ((((a : Nat) : Int) * 5 + 3) % (((ns.map V.int).length : Nat) : Int)) = some (.int w0) := by
                rw [List.length_map, hm]
                exact ⟨ns[(a * 5 + 3) % ns.length], atI_nat (by rw [List.getElem?_map, List.getElem?_eq_getElem hlt]; rfl)⟩
              have pos : (0 : Int) < (((ns.map V.int).length : Nat) : Int) := by rw [List.length_map]; omega
              have e17 : (10 : Int) ^ (17 : Int).toNat = 100000000000000000 := by decide
              refine ⟨_, rfl, p, _, _, _, rfl, rfl, SqL.of gp, rfl, _, rfl, _, _, rfl, rfl, .inr ⟨by decide, by decide⟩, _, _, rfl, rfl, _, rfl, p, _, _, _, rfl, rfl, SqL.of gp, rfl, _, _, rfl, .inl ⟨_, SqL.of gc, rfl⟩, _, _, rfl, rfl, pos,
                c, _, _, _, rfl, rfl, SqL.of gc, ea, _, _, rfl, rfl, ⟨by decide, by decide, by decide⟩, _, rfl, _, _, rfl, rfl, _, _, rfl, rfl, ?_, ?_⟩
              · show (0 : Int) < (10 : Int) ^ (17 : Int).toNat + (a : Int)
                rw [e17]
                omega
              · exact ⟨_, rfl, rfl⟩
            · refine ifF (decide_eq_false (by omega)) ?_
              exact ⟨_, rfl, rfl⟩
        · rintro σ' H' ⟨z, rfl, rfl⟩
          refine ⟨_, rfl, _, _, rfl, rfl, _, rfl, p, _, _, 1, rfl, rfl, gp, rfl, ?_⟩
          refine ⟨_, rfl, _, rfl, z, a, rfl, by omega, fun r H' s1 => ?_⟩
          have g1 : H' p = some (.lst [.ref c, .int ((a + 1 : Nat) : Int), .int acc]) := s1 _ _ upd_same
          have gc1 : H' c = some (.lst (ns.map V.int)) := s1 _ _ (by rw [upd_ne ncp]; exact gc)
          refine ⟨_, rfl, p, _, _, 2, rfl, rfl, g1, rfl, ?_⟩
          exact ⟨a + 1, r, _, _, rfl, (But.set.trans (But.of s1)).trans But.set, upd_same, by rw [upd_ne ncp]; exact gc1, by omega⟩
      · exact ⟨a, acc, none, none, rfl, But.refl _ _, gp, gc, by omega⟩
    · rintro σ' H' ⟨a', acc', x, y, rfl, b, gp', gc', ha'⟩
      refine ⟨_, rfl, p, _, _, _, rfl, rfl, SqL.of gp', rfl, _, rfl, _, _, rfl, rfl, hk0, ?_⟩
      refine ⟨_, rfl, p, _, _, _, rfl, rfl, SqL.of gp', rfl, _, rfl, _, _, rfl, rfl, ⟨hk0, hk⟩, _, rfl, p, _, _, 2, rfl, rfl, gp', rfl, ?_⟩
      refine ⟨_, rfl, ?_⟩
      exact q _ _ (Int.emod_nonneg _ (by omega)) (Int.emod_lt_of_pos _ hk0) ⟨⟨a', _, ns, upd_same, by rw [upd_ne ncp]; exact gc', ncp, hns, ha'⟩, b.trans But.set⟩
theorem ok_law_one_of (T : Txt K mg) : FnOk P w K mg base CX0 3 T.f_law_one_of T.d_law_one_of ["pen", "some"] (sp_law_one_of K) := by
  refine T.F_law_one_of.ok sc_law_one_of (fun vs H Q E h => ?_) (fun cdv A outer s H vs Q E hr h => ?_)
  · obtain ⟨p, c, a, n, xs, rfl, _⟩ := h
    rfl
  · obtain ⟨p, c, a, n, xs, rfl, hp, hS, nap, hne, hz, hn, q⟩ := h
    refine ⟨_, (pss_one (ps_ret (pe_ix ix_list (pv 1) (pe_call (ok_law_take T) (hr.mono (by decide)) rfl T.g_law_take T.F_law_take.kp T.b_law_take .nil pass0 (pa_cons (pv 0) (pa_cons (pe_callB call_len rfl T.z_len boot_len (pa_cons (pv 1) pa_nil)) pa_nil))) (fun _ _ => rfl)))), ?_⟩
    have hpos : 0 < xs.length := List.length_pos_iff.mpr hne
    refine ⟨_, rfl, _, rfl, _, rfl, _, _, rfl, .inl ⟨_, hS, rfl⟩, ?_⟩
    refine ⟨p, c, n, xs.length, rfl, hp, by omega, by omega, hn, fun r H' h0 h1 d => ?_⟩
    have hr' : r.toNat < xs.length := by omega
    have er : r = ((r.toNat : Nat) : Int) := by omega
    refine ⟨a, xs, r, xs[r.toNat], rfl, rfl, d.but.seq nap hS, ?_, ?_⟩
    · exact at_of er (List.getElem?_eq_getElem hr')
    · exact q _ H' (List.getElem_mem hr') d
theorem ok_law_signs (T : Txt K mg) : FnOk P w K mg base CX0 1 T.f_law_signs T.d_law_signs [] sp_law_signs := by
  refine T.F_law_signs.ok sc_law_signs (fun vs H Q E h => ?_) (fun cdv A outer s H vs Q E hr h => ?_)
  · obtain ⟨rfl, _⟩ := h
    rfl
  · obtain ⟨rfl, q⟩ := h
    refine ⟨_, (pss_one (ps_ret pe_str)), ?_⟩
    exact q

theorem ok_law_draw_number (T : Txt K mg) : FnOk P w K mg base CX0 4 T.f_law_draw_number T.d_law_draw_number ["pen"] sp_law_draw_number := by
  refine T.F_law_draw_number.ok sc_law_draw_number (fun vs H Q E h => ?_) (fun cdv A outer s H vs Q E hr h => ?_)
  · obtain ⟨p, c, n, rfl, _⟩ := h
    rfl
  · obtain ⟨p, c, n, rfl, hp, hn, q⟩ := h
    refine ⟨_, (Evl.pss_cut (ps_set (i := 1) sc_law_draw_number.nd rfl (Or.inl rfl) (pe_call (ok_law_one_of T) (hr.mono (by decide)) rfl T.g_law_one_of T.F_law_one_of.kp T.b_law_one_of .nil pass0 (pa_cons (pv 0) (pa_cons (pe_lst (pa_cons pe_int (pa_cons pe_int (pa_cons pe_int (pa_cons pe_int (pa_cons pe_int (pa_cons pe_int (pa_cons pe_int (pa_cons pe_int (pa_cons pe_int (pa_cons pe_int (pa_cons pe_int (pa_cons pe_int (pa_cons pe_int (pa_cons pe_int (pa_cons pe_int pa_nil)))))))))))))))) pa_nil))))
      (Evl.pss_cut (ps_set (i := 2) sc_law_draw_number.nd rfl (Or.inl rfl) (pe_lst (pa_cons pe_int (pa_cons pe_int (pa_cons (pe_call (ok_law_take T) (hr.mono (by decide)) rfl T.g_law_take T.F_law_take.kp T.b_law_take .nil pass0 (pa_cons (pv 0) (pa_cons pe_int pa_nil))) (pa_cons (pe_call (ok_law_take T) (hr.mono (by decide)) rfl T.g_law_take T.F_law_take.kp T.b_law_take .nil pass0 (pa_cons (pv 0) (pa_cons pe_int pa_nil))) (pa_cons (pe_call (ok_law_take T) (hr.mono (by decide)) rfl T.g_law_take T.F_law_take.kp T.b_law_take .nil pass0 (pa_cons (pv 0) (pa_cons pe_int pa_nil))) (pa_cons (pe_op op_sub (pe_op op_add (pv 1) (pe_call (ok_law_take T) (hr.mono (by decide)) rfl T.g_law_take T.F_law_take.kp T.b_law_take .nil pass0 (pa_cons (pv 0) (pa_cons pe_int pa_nil)))) pe_int) pa_nil))))))))
      (pss_one (ps_ret (pe_callB (call_max2 rfl) rfl T.z_max boot_max (pa_cons pe_int (pa_cons (pe_callB (call_min2 rfl) rfl T.z_min boot_min (pa_cons pe_int (pa_cons (pe_call (ok_law_one_of T) (hr.mono (by decide)) rfl T.g_law_one_of T.F_law_one_of.kp T.b_law_one_of .nil pass0 (pa_cons (pv 0) (pa_cons (pv 2) pa_nil))) pa_nil))) pa_nil))))))), ?_⟩
    refine ⟨fun σ' H' => ∃ z : Int, σ' = [some (.ref p), some (.int z), none] ∧ Drew p c H H' (n + 1), ?_, ?_⟩
    · refine ⟨_, rfl, by show 15 ≤ sizeLine; decide, fun l hl => ?_⟩
      refine ⟨p, c, l, n, _, rfl, hp.keep (Same.new hl), SqL.of upd_same, Ne.symm (hp.ne hl), by simp, by simp, by omega, fun x H2 hx d => ?_⟩
      have hx' : ∃ z : Int, x = .int z := by
        simp only [List.mem_cons, List.not_mem_nil, or_false] at hx
        rcases hx with h | h | h | h | h | h | h | h | h | h | h | h | h | h | h <;> exact ⟨_, h⟩
      obtain ⟨z, rfl⟩ := hx'
      exact ⟨z, rfl, d.pen, (But.new hl).trans d.but⟩
    · rintro σ' H1 ⟨near, rfl, d1⟩
      refine ⟨fun σ' H' => ∃ (l : Addr) (xs : List V), σ' = [some (.ref p), some (.int near), some (.ref l)] ∧ Drew p c H H' (n + 5) ∧ H' l = some (.lst xs) ∧ l ≠ p ∧ xs.length = 6 ∧ ∀ x ∈ xs, ∃ z : Int, x = .int z, ?_, ?_⟩
      · refine ⟨_, rfl, p, c, n + 1, _, rfl, d1.pen, by omega, by omega, by omega, fun r1 H2 _ _ d2 => ?_⟩
        refine ⟨_, rfl, p, c, n + 2, _, rfl, d2.pen, by omega, by omega, by omega, fun r2 H3 _ _ d3 => ?_⟩
        refine ⟨_, rfl, p, c, n + 3, _, rfl, d3.pen, by omega, by omega, by omega, fun r3 H4 _ _ d4 => ?_⟩
        refine ⟨_, rfl, _, rfl, p, c, n + 4, _, rfl, d4.pen, by omega, by omega, by omega, fun r4 H5 _ _ d5 => ?_⟩
        refine ⟨_, _, rfl, rfl, _, _, rfl, rfl, by show 6 ≤ sizeLine; decide, fun l hl => ?_⟩
        have d := (((d1.trans d2).trans d3).trans d4).trans d5
        refine ⟨l, _, rfl, d.keep (Same.new hl), upd_same, Ne.symm (d.pen.ne hl), rfl, fun x hx => ?_⟩
        simp only [List.mem_cons, List.not_mem_nil, or_false] at hx
        rcases hx with h | h | h | h | h | h <;> exact ⟨_, h⟩
      · rintro σ' H2 ⟨l, xs, rfl, d2, hl, nlp, hlen, hints⟩
        refine ⟨_, rfl, _, rfl, p, c, l, n + 5, xs, rfl, d2.pen, SqL.of hl, nlp, (by intro e; rw [e] at hlen; cases hlen), by omega, by omega, fun x H3 hx d3 => ?_⟩
        obtain ⟨z, rfl⟩ := hints x hx
        refine ⟨_, _, rfl, _, _, rfl, ?_⟩
        have e : ∃ k : Nat, k ≤ 9999 ∧ (if (if z < 9999 then z else 9999) > 0 then (if z < 9999 then z else 9999) else 0) = ((k : Nat) : Int) := by
          refine ⟨(if (if z < 9999 then z else 9999) > 0 then (if z < 9999 then z else 9999) else 0).toNat, ?_, ?_⟩ <;> split <;> split <;> omega
        obtain ⟨k, hk, ek⟩ := e
        have := q k H3 hk (d2.trans ⟨d3.pen.mono (by omega), d3.but⟩)
        rw [← ek] at this
        exact this
theorem ok_law_draw_text (T : Txt K mg) : FnOk P w K mg base CX0 4 T.f_law_draw_text T.d_law_draw_text ["pen", "least", "most"] sp_law_draw_text := by
  refine T.F_law_draw_text.ok sc_law_draw_text (fun vs H Q E h => ?_) (fun cdv A outer s H vs Q E hr h => ?_)
  · obtain ⟨p, c, n, a, b, rfl, _⟩ := h
    rfl
  · obtain ⟨p, c, n, a, b, rfl, hp, hn, ha1, hab, hb, q⟩ := h
    refine ⟨_, (pss_cons (ps_set (i := 3) sc_law_draw_text.nd rfl (Or.inl rfl) (pe_call (ok_law_one_of T) (hr.mono (by decide)) rfl T.g_law_one_of T.F_law_one_of.kp T.b_law_one_of .nil pass0 (pa_cons (pv 0) (pa_cons (pe_lst (pa_cons (pv 1) (pa_cons (pv 2) (pa_cons (pe_op op_add (pv 1) (pe_call (ok_law_take T) (hr.mono (by decide)) rfl T.g_law_take T.F_law_take.kp T.b_law_take .nil pass0 (pa_cons (pv 0) (pa_cons (pe_op op_add (pe_op op_sub (pv 2) (pv 1)) pe_int) pa_nil)))) (pa_cons (pe_callB (call_min2 rfl) rfl T.z_min boot_min (pa_cons (pv 2) (pa_cons (pe_op op_add (pv 1) pe_int) pa_nil))) (pa_cons (pe_callB (call_min2 rfl) rfl T.z_min boot_min (pa_cons (pv 2) (pa_cons pe_int pa_nil))) pa_nil)))))) pa_nil))))
      (Evl.pss_cut (ps_set (i := 3) sc_law_draw_text.nd rfl (Or.inl rfl) (pe_callB (call_max2 rfl) rfl T.z_max boot_max (pa_cons (pv 1) (pa_cons (pv 3) pa_nil))))
      (pss_cons (ps_if (pt_cmpR op_eq (pe_call (ok_law_take T) (hr.mono (by decide)) rfl T.g_law_take T.F_law_take.kp T.b_law_take .nil pass0 (pa_cons (pv 0) (pa_cons pe_int pa_nil))) pe_int (nomark _)) (pss_one (ps_ret (pe_slice sl_str (pe_op op_mul_str (pe_call (ok_law_one_of T) (hr.mono (by decide)) rfl T.g_law_one_of T.F_law_one_of.kp T.b_law_one_of .nil pass0 (pa_cons (pv 0) (pa_cons (pe_lst (pa_cons pe_str (pa_cons pe_str (pa_cons pe_str (pa_cons pe_str (pa_cons pe_str pa_nil)))))) pa_nil))) pe_int) po_none (po_some (pv 3))))) pss_nil)
      (pss_one (ps_ret (pe_join pe_str (pe_lc (own := [("k", 4)]) (g := (gName 4)) (tt := tYes)  rfl sc_law_draw_text.nd (pi_range1 rfl T.z_range (pa_cons (pv 3) pa_nil)) (blkOk_by (own := [("k", 4)]) (N := ["pen", "least", "most", "size", "k"]) (sc := defScope s_law_draw_text) (by decide +kernel)) (fun _ _ _ _ _ => (pg_name (i := 4) sc_law_draw_text.nd rfl (Or.inl rfl))) (fun _ _ _ _ _ => pts_nil) (fun _ _ _ _ _ => (pe_ix ix_str (pe_call0 (ok_law_signs T) (hr.mono (by decide)) rfl T.g_law_signs T.F_law_signs.kp T.b_law_signs .nil pass0) (pe_call (ok_law_take T) (hr.mono (by decide)) rfl T.g_law_take T.F_law_take.kp T.b_law_take .nil pass0 (pa_cons (pv 0) (pa_cons pe_int pa_nil))) (fun _ _ => rfl)))))))))), ?_⟩
    refine ⟨_, rfl, _, rfl, _, rfl, _, rfl, _, rfl, _, rfl, _, rfl, _, _, rfl, rfl, _, _, rfl, rfl, p, c, n, _, rfl, hp, by omega, by omega, by omega, fun r H1 h0 h1 d1 => ?_⟩
    refine ⟨_, _, rfl, rfl, _, rfl, _, rfl, _, _, rfl, rfl, _, _, rfl, _, rfl, _, _, rfl, by show 5 ≤ sizeLine; decide, fun l hl => ?_⟩
    refine ⟨p, c, l, n + 1, _, rfl, d1.pen.keep (Same.new hl), SqL.of upd_same, Ne.symm (d1.pen.ne hl), by simp, by simp, by omega, fun x H2 hx d2 => ?_⟩
    have hx' : ∃ z : Int, x = .int z ∧ 0 ≤ z ∧ z ≤ b := by
      simp only [List.mem_cons, List.not_mem_nil, or_false] at hx
      rcases hx with h | h | h | h | h
      · exact ⟨_, h, by omega, by omega⟩
      · exact ⟨_, h, by omega, by omega⟩
      · exact ⟨_, h, by omega, by omega⟩
      · exact ⟨_, h, by split <;> omega, by split <;> omega⟩
      · exact ⟨_, h, by split <;> omega, by split <;> omega⟩
    obtain ⟨z, rfl, hz0, hz1⟩ := hx'
    have d12 : Drew p c H H2 (n + 2) := ⟨d2.pen, (d1.but.trans (But.new hl)).trans d2.but⟩
    refine ⟨fun σ' H' => ∃ k : Nat, σ' = [some (.ref p), some (.int (a : Nat)), some (.int (b : Nat)), some (.int (k : Nat)), none] ∧ a ≤ k ∧ k ≤ b ∧ H2 = H', ?_, ?_⟩
    · refine ⟨_, rfl, _, rfl, _, _, rfl, ?_⟩
      have e : (if z > (a : Int) then z else (a : Int)) = (((if z > (a : Int) then z else (a : Int)).toNat : Nat) : Int) := by split <;> omega
      refine ⟨(if z > (a : Int) then z else (a : Int)).toNat, ?_, ?_, ?_, rfl⟩
      · rw [← e]; rfl
      · split <;> omega
      · split <;> omega
    · rintro σ' H' ⟨k, rfl, hk0, hk1, rfl⟩
      refine ⟨_, rfl, p, c, n + 2, _, rfl, d12.pen, by omega, by omega, by omega, fun r3 H3 h30 h31 d3 => ?_⟩
      have d123 := d12.trans d3
      refine ⟨rfl, _, rfl, ?_⟩
      refine ifb (fun _ => ?_) (fun _ => ?_)
      · refine ⟨_, rfl, by show 5 ≤ sizeLine; decide, fun l2 hl2 => ?_⟩
        refine ⟨p, c, l2, n + 3, _, rfl, d123.pen.keep (Same.new hl2), SqL.of upd_same, Ne.symm (d123.pen.ne hl2), by simp, by simp, by omega, fun x H4 hx d4 => ?_⟩
        have hw : ∃ y ∈ textWords, x = .str y := by
          simp only [List.mem_cons, List.not_mem_nil, or_false] at hx
          rcases hx with h | h | h | h | h
          · exact ⟨_, by decide, h⟩
          · exact ⟨_, by decide, h⟩
          · exact ⟨_, by decide, h⟩
          · exact ⟨_, by decide, h⟩
          · exact ⟨_, by decide, h⟩
        obtain ⟨y, hy, rfl⟩ := hw
        have ok := List.all_eq_true.mp words_ok y hy
        simp only [Bool.and_eq_true, decide_eq_true_eq] at ok
        obtain ⟨⟨ok1, ok2⟩, ok3⟩ := ok
        refine ⟨y, 9, rfl, rfl, by decide, by decide, ok2, by omega, ?_⟩
        have hrl := rep_len y 9
        refine ⟨_, rfl, _, rfl, _, rfl, ?_, ?_⟩
        · exact len100 (by show (repS y 9).length ≤ 100000; omega)
        · refine q _ H4 ?_ ⟨d4.pen.mono (by omega), (d123.but.trans (But.new hl2)).trans d4.but⟩
          have hl9 : (repS y 9).cps.toList.length = 9 * y.length := by rw [← str_len]; exact hrl
          refine txt_cut (x := repS y 9) ?_ ⟨ha1, hk0, hk1⟩ (rep_all ok1)
          omega
      · refine ⟨⟨_, rfl⟩, _, rfl, _, rfl, by omega, by omega, fun D hD => ?_⟩
        refine lc_gen walk_range (fun i ys H' => Drew p c H3 H' (n + 3 + i) ∧ ∃ cs : List Nat, ys = cs.map (fun c => V.str ⟨#[c]⟩) ∧ cs.all isChar = true) (by omega) ?_ (fun _ _ _ _ => True.intro) ?_ ?_
        · exact ⟨⟨(d123.pen.upd (d123.pen.ne hD) (d123.pen.nec hD)).mono (by omega), But.new hD⟩, [], rfl, rfl⟩
        · rintro i ys x H' H'' Q' Z hi hl hDl ⟨d4, cs, rfl, hcs⟩ ⟨rfl, rfl⟩ q'
          refine ⟨rfl, yesI ?_⟩
          refine ⟨rfl, _, rfl, p, c, n + 3 + i, _, rfl, d4.pen, by omega, by omega, by omega, fun r5 H5 h50 h51 d5 => ?_⟩
          have hr5 : r5.toNat < charCodes.length := by
            have : charCodes.length = 43 := rfl
            omega
          have e5 : charCodes[r5.toNat]? = some charCodes[r5.toNat] := List.getElem?_eq_getElem hr5
          have e6 : signs.cps.toList[r5.toNat]? = some charCodes[r5.toNat] := by rw [signs_cps]; exact e5
          refine ⟨signs, r5, charCodes[r5.toNat], rfl, rfl, by decide, at_ofN (j := r5.toNat) (by omega) e6, ?_⟩
          have npD : p ≠ D := d123.pen.ne hD
          have ncD : c ≠ D := d123.pen.nec hD
          refine q' _ H5 (d5.but D _ (Ne.symm npD) hDl) ⟨⟨(d5.pen.upd npD ncD).mono (by omega), (d4.but.trans d5.but).put hD⟩, cs ++ [charCodes[r5.toNat]], ?_, ?_⟩
          · rw [List.map_append]; rfl
          · rw [List.all_append, hcs]
            have : isChar charCodes[r5.toNat] = true := List.contains_iff_mem.mpr (List.getElem_mem hr5)
            simp [this]
        · rintro ys H' hl hDl ⟨d4, cs, rfl, hcs⟩
          rw [List.length_map] at hl
          refine ⟨"", D, cs.map (fun c => (⟨#[c]⟩ : Str)), rfl, rfl, .inl (SqL.of (by rw [hDl, List.map_map]; rfl)), ?_, ?_⟩
          · have e0 : ("" : Str).length = 0 := rfl
            have e1 : ((cs.map (fun c => (⟨#[c]⟩ : Str))).map (·.length)).sum = cs.length := by
              rw [List.map_map]
              clear hcs hDl hl
              induction cs with
              | nil => rfl
              | cons a r ih => rw [List.map_cons, List.sum_cons, ih, List.length_cons]; show 1 + r.length = _; omega
            rw [e1, e0]
            omega
          · have ej : Txt.join "" (cs.map (fun c => (⟨#[c]⟩ : Str))) = ⟨cs.toArray⟩ := join_signs cs
            rw [ej]
            have e2 : (⟨cs.toArray⟩ : Str).length = cs.length := by show cs.toArray.size = _; simp
            refine q _ H' (txt_of (by omega) (by omega) ?_) (d123.trans (d4.mono (by omega)))
            show cs.toArray.toList.all isChar = true
            simpa using hcs

theorem same_zip {xs ys : List V} {ds : List PyData} {n : Nat} {H : Hp} {i : Nat} {x y : V} (ax : DpAll K H xs ds) (ay : DpAll K H ys ds) (hd : ∀ d ∈ ds, DLe n d) (hx : xs[i]? = some x) (hy : ys[i]? = some y) :
    ∃ d, Dp K H x d ∧ Dp K H y d ∧ DLe n d := by
  obtain ⟨d, h1, h2⟩ := dpAll_at ax hx
  obtain ⟨e, h3, h4⟩ := dpAll_at ay hy
  rw [h1] at h3
  cases h3
  exact ⟨d, h2, h4, hd d (List.mem_of_getElem? h1)⟩
theorem ok_law_same__rec (T : Txt K mg) (n k : Nat) (G : FnOk P w K mg base CX0 k T.f_law_same T.d_law_same ["found", "due"] (sp_same_sub K n)) : FnOk P w K mg base CX0 (k + 1) T.f_law_same T.d_law_same ["found", "due"] (sp_law_same K n) := by
  refine T.F_law_same.ok sc_law_same (fun vs H Q E h => ?_) (fun cdv A outer s H vs Q E hr h => ?_)
  · obtain ⟨v, u, d, rfl, _⟩ := h
    rfl
  · obtain ⟨v, u, d, rfl, hv, hu, hd, q⟩ := h
    refine ⟨_, (pss_cons (ps_if (PW.pt (pw_or (pt_cmpR op_isN (pv 1) pe_non (nomark _)) (pw_or1 (pt_cmpR op_isN (pv 0) pe_non (nomark _))))) (pss_one (ps_ret (pe_and (pe_cmpR op_isN (pv 1) pe_non (nomark _)) (pe_one (pe_cmpR op_isN (pv 0) pe_non (nomark _)))))) pss_nil)
      (pss_cons (ps_if (PW.pt (pw_or (pt_val (pe_callB call_isi rfl T.z_isinstance boot_isinstance (pa_cons (pv 1) (pa_cons (pe_bltn (v := .ty "bool") rfl T.z_bool boot_bool rfl) pa_nil)))) (pw_or1 (pt_val (pe_callB call_isi rfl T.z_isinstance boot_isinstance (pa_cons (pv 0) (pa_cons (pe_bltn (v := .ty "bool") rfl T.z_bool boot_bool rfl) pa_nil))))))) (pss_one (ps_ret (pe_and (pe_callB call_isi rfl T.z_isinstance boot_isinstance (pa_cons (pv 1) (pa_cons (pe_bltn (v := .ty "bool") rfl T.z_bool boot_bool rfl) pa_nil))) (pe_and (pe_callB call_isi rfl T.z_isinstance boot_isinstance (pa_cons (pv 0) (pa_cons (pe_bltn (v := .ty "bool") rfl T.z_bool boot_bool rfl) pa_nil))) (pe_one (pe_cmpR op_eq (pv 0) (pv 1) (nomark _))))))) pss_nil)
      (pss_cons (ps_if (pt_val (pe_callB call_isiT rfl T.z_isinstance boot_isinstance (pa_cons (pv 1) (pa_cons (pe_tup (pa_cons (pe_bltn (v := .ty "int") rfl T.z_int boot_int rfl) (pa_cons (pe_bltn (v := .ty "str") rfl T.z_str boot_str rfl) pa_nil))) pa_nil)))) (pss_cons (ps_if (pt_cmpR op_ne (pe_callB call_isi rfl T.z_isinstance boot_isinstance (pa_cons (pv 0) (pa_cons (pe_bltn (v := .ty "int") rfl T.z_int boot_int rfl) pa_nil))) (pe_callB call_isi rfl T.z_isinstance boot_isinstance (pa_cons (pv 1) (pa_cons (pe_bltn (v := .ty "int") rfl T.z_int boot_int rfl) pa_nil))) (nomark _)) (pss_one (ps_ret pe_bl)) pss_nil)
      (pss_one (ps_ret (pe_and (pe_callB call_isiT rfl T.z_isinstance boot_isinstance (pa_cons (pv 0) (pa_cons (pe_tup (pa_cons (pe_bltn (v := .ty "int") rfl T.z_int boot_int rfl) (pa_cons (pe_bltn (v := .ty "str") rfl T.z_str boot_str rfl) pa_nil))) pa_nil))) (pe_one (pe_cmpR op_eq (pv 0) (pv 1) (nomark _))))))) pss_nil)
      (pss_cons (ps_if (PW.pt (pw_or (pt_cmpR op_ne (pe_callB call_isi rfl T.z_isinstance boot_isinstance (pa_cons (pv 1) (pa_cons (pe_bltn (v := .ty "tuple") rfl T.z_tuple boot_tuple rfl) pa_nil))) (pe_callB call_isi rfl T.z_isinstance boot_isinstance (pa_cons (pv 0) (pa_cons (pe_bltn (v := .ty "tuple") rfl T.z_tuple boot_tuple rfl) pa_nil))) (nomark _)) (pw_or1 (pt_cmpR op_ne (pe_callB call_isi rfl T.z_isinstance boot_isinstance (pa_cons (pv 1) (pa_cons (pe_bltn (v := .ty "list") rfl T.z_list boot_list rfl) pa_nil))) (pe_callB call_isi rfl T.z_isinstance boot_isinstance (pa_cons (pv 0) (pa_cons (pe_bltn (v := .ty "list") rfl T.z_list boot_list rfl) pa_nil))) (nomark _))))) (pss_one (ps_ret pe_bl)) pss_nil)
      (pss_cons (ps_if (pt_cmpR op_ne (pe_callB call_len rfl T.z_len boot_len (pa_cons (pv 0) pa_nil)) (pe_callB call_len rfl T.z_len boot_len (pa_cons (pv 1) pa_nil)) (nomark _)) (pss_one (ps_ret pe_bl)) pss_nil)
      (pss_one (ps_ret (pe_cmpR op_notIn_seq pe_bl (pe_lc (own := [("one", 2), ("other", 3)]) (g := (gTup K 2 (gCons (gName 2) (gCons (gName 3) gNil)))) (tt := tYes)  rfl sc_law_same.nd (RZ.pi_zipA rfl T.z_zip (pa_cons (pv 0) (pa_cons (pv 1) pa_nil))) (blkOk_by (own := [("one", 2), ("other", 3)]) (N := ["found", "due", "one", "other"]) (sc := defScope s_law_same) (by decide +kernel)) (fun _ _ _ _ _ => (pg_tup rfl (pgs_cons (pg_name (i := 2) sc_law_same.nd rfl (Or.inl rfl)) (pgs_cons (pg_name (i := 3) sc_law_same.nd rfl (Or.inl rfl)) pgs_nil)))) (fun _ _ _ _ _ => pts_nil) (fun _ _ _ _ _ => (pe_call G hr rfl T.g_law_same T.F_law_same.kp T.b_law_same .nil pass0 (pa_cons (pv 2) (pa_cons (pv 3) pa_nil))))) rfl)))))))), ?_⟩
    cases hv with
    | non =>
      cases hu
      exact ⟨_, rfl, rfl, _, rfl, iteT ⟨_, rfl, rfl, _, rfl, iteT ⟨_, rfl, rfl, q H (Same.refl _)⟩⟩⟩
    | bl b =>
      have k0 : Kind K H (.bl b) "bool" := .bl b
      cases hu
      refine ⟨_, rfl, rfl, _, rfl, ifF rfl ⟨_, rfl, rfl, _, rfl, ifF rfl ?_⟩⟩
      refine ⟨_, rfl, _, _, _, _, _, rfl, .ty _, k0.ty, k0.kit, _, rfl, iteT ?_⟩
      refine ⟨_, rfl, _, _, _, _, _, rfl, .ty _, k0.ty, k0.kit, _, rfl, iteT ?_⟩
      refine ⟨_, rfl, _, _, _, _, _, rfl, .ty _, k0.ty, k0.kit, _, rfl, iteT ?_⟩
      exact ⟨_, rfl, _, rfl, rfl, Q_bl (q H (Same.refl _)) (decide_eq_true rfl).symm⟩
    | int i =>
      have k0 : Kind K H (.int i) "int" := .int i
      cases hu
      refine ⟨_, rfl, rfl, _, rfl, ifF rfl ⟨_, rfl, rfl, _, rfl, ifF rfl ?_⟩⟩
      refine ⟨_, rfl, _, _, _, _, _, rfl, .ty _, k0.ty, k0.kit, _, rfl, ifF rfl ?_⟩
      refine ⟨_, rfl, _, _, _, _, _, rfl, .ty _, k0.ty, k0.kit, _, rfl, ifF rfl ?_⟩
      refine ⟨_, rfl, by show 2 ≤ sizeLine; decide, fun tp htp => ?_⟩
      have k1 := k0.keep (Same.new (o := .tup [.ty "int", .ty "str"]) htp)
      refine ⟨_, tp, _, _, _, _, rfl, upd_same, .cons (.ty _) (.cons (.ty _) .nil), k1.ty, k1.kit2, _, rfl, ifT rfl ?_⟩
      refine ⟨_, rfl, _, _, _, _, _, rfl, .ty _, k1.ty, k1.kit, _, rfl, _, _, _, _, _, rfl, .ty _, k1.ty, k1.kit, rfl, _, rfl, ifF rfl ?_⟩
      refine ⟨_, rfl, by show 2 ≤ sizeLine; decide, fun tp2 htp2 => ?_⟩
      have k2 := k1.keep (Same.new (o := .tup [.ty "int", .ty "str"]) htp2)
      refine ⟨_, tp2, _, _, _, _, rfl, upd_same, .cons (.ty _) (.cons (.ty _) .nil), k2.ty, k2.kit2, _, rfl, ifT rfl ?_⟩
      exact ⟨_, rfl, _, rfl, rfl, Q_bl (q _ ((Same.new htp).trans (Same.new htp2))) (decide_eq_true rfl).symm⟩
    | str x =>
      have k0 : Kind K H (.str x) "str" := .str x
      cases hu
      refine ⟨_, rfl, rfl, _, rfl, ifF rfl ⟨_, rfl, rfl, _, rfl, ifF rfl ?_⟩⟩
      refine ⟨_, rfl, _, _, _, _, _, rfl, .ty _, k0.ty, k0.kit, _, rfl, ifF rfl ?_⟩
      refine ⟨_, rfl, _, _, _, _, _, rfl, .ty _, k0.ty, k0.kit, _, rfl, ifF rfl ?_⟩
      refine ⟨_, rfl, by show 2 ≤ sizeLine; decide, fun tp htp => ?_⟩
      have k1 := k0.keep (Same.new (o := .tup [.ty "int", .ty "str"]) htp)
      refine ⟨_, tp, _, _, _, _, rfl, upd_same, .cons (.ty _) (.cons (.ty _) .nil), k1.ty, k1.kit2, _, rfl, ifT rfl ?_⟩
      refine ⟨_, rfl, _, _, _, _, _, rfl, .ty _, k1.ty, k1.kit, _, rfl, _, _, _, _, _, rfl, .ty _, k1.ty, k1.kit, rfl, _, rfl, ifF rfl ?_⟩
      refine ⟨_, rfl, by show 2 ≤ sizeLine; decide, fun tp2 htp2 => ?_⟩
      have k2 := k1.keep (Same.new (o := .tup [.ty "int", .ty "str"]) htp2)
      refine ⟨_, tp2, _, _, _, _, rfl, upd_same, .cons (.ty _) (.cons (.ty _) .nil), k2.ty, k2.kit2, _, rfl, ifT rfl ?_⟩
      exact ⟨_, rfl, _, rfl, rfl, Q_bl (q _ ((Same.new htp).trans (Same.new htp2))) (decide_eq_true rfl).symm⟩
    | @lst av xv ds h1 a1 =>
      cases hu with
      | @lst au xu _ h2 a2 =>
      cases n with
      | zero => exact hd.elim
      | succ m =>
      obtain ⟨hlen, hds⟩ := hd
      have kv : Kind K H (.ref av) "list" := .lst h1
      have ku : Kind K H (.ref au) "list" := .lst h2
      refine ⟨_, rfl, rfl, _, rfl, ifF rfl ⟨_, rfl, rfl, _, rfl, ifF rfl ?_⟩⟩
      refine ⟨_, rfl, _, _, _, _, _, rfl, .ty _, ku.ty, ku.kit, _, rfl, ifF rfl ?_⟩
      refine ⟨_, rfl, _, _, _, _, _, rfl, .ty _, kv.ty, kv.kit, _, rfl, ifF rfl ?_⟩
      refine ⟨_, rfl, by show 2 ≤ sizeLine; decide, fun tp htp => ?_⟩
      have s1 := Same.new (o := .tup [.ty "int", .ty "str"]) htp
      have ku1 := ku.keep s1
      have kv1 := kv.keep s1
      refine ⟨_, tp, _, _, _, _, rfl, upd_same, .cons (.ty _) (.cons (.ty _) .nil), ku1.ty, ku1.kit2, _, rfl, ifF rfl ?_⟩
      refine ⟨_, rfl, _, _, _, _, _, rfl, .ty _, ku1.ty, ku1.kit, _, rfl, _, _, _, _, _, rfl, .ty _, kv1.ty, kv1.kit, rfl, _, rfl, ifF rfl ?_⟩
      refine ⟨_, rfl, _, _, _, _, _, rfl, .ty _, ku1.ty, ku1.kit, _, rfl, _, _, _, _, _, rfl, .ty _, kv1.ty, kv1.kit, rfl, _, rfl, ifF rfl ?_⟩
      have l1 := dpAll_len a1
      have l2 := dpAll_len a2
      refine ⟨_, rfl, _, _, rfl, .inl ⟨_, s1.seq h1, rfl⟩, _, rfl, _, _, rfl, .inl ⟨_, s1.seq h2, rfl⟩, rfl, _, rfl, ifF (by rw [l1, l2]; simp) ?_⟩
      refine ⟨_, rfl, _, rfl, av, au, xv, xu, rfl, .inl ⟨s1.seq h1, s1.seq h2, fun D hD => ?_⟩⟩
      refine lc_map (walk_zip (n := ds.length) (by rw [l1, l2, Nat.min_self])) (fun _ => V.bl true) (by omega) hD (fun H' s2 => ⟨(s1.trans s2).seq h1, (s1.trans s2).seq h2⟩) ?_ ?_
      · rintro i z H' H'' Q' Z hi s2 ⟨t, x, y, rfl, ht, rfl, hx, hy⟩ q'
        refine ⟨t, _, rfl, SqT.of upd_same, rfl, _, _, rfl, _, _, rfl, rfl, rfl, yesI ?_⟩
        obtain ⟨d, d1, d2, d3⟩ := same_zip (H := H) (K := K) (n := m) a1 a2 hds hx hy
        have s3 := (s1.trans s2).trans (Same.new (o := .tup [x, y]) ht)
        exact ⟨_, rfl, _, rfl, x, y, d, rfl, dp_keep s3 d1, dp_keep s3 d2, d3, fun H4 s4 => q' H4 ((Same.new ht).trans s4)⟩
      · intro H' s2 hD'
        refine ⟨D, _, rfl, .inl (SqL.of hD'), rfl, flat_trues _, ?_⟩
        refine Q_bl (q H' (s1.trans s2)) ?_
        rw [in_trues]
        rfl
    | @tup av xv ds h1 a1 =>
      cases hu with
      | @tup au xu _ h2 a2 =>
      cases n with
      | zero => exact hd.elim
      | succ m =>
      obtain ⟨hlen, hds⟩ := hd
      have kv : Kind K H (.ref av) "tuple" := .tup h1
      have ku : Kind K H (.ref au) "tuple" := .tup h2
      refine ⟨_, rfl, rfl, _, rfl, ifF rfl ⟨_, rfl, rfl, _, rfl, ifF rfl ?_⟩⟩
      refine ⟨_, rfl, _, _, _, _, _, rfl, .ty _, ku.ty, ku.kit, _, rfl, ifF rfl ?_⟩
      refine ⟨_, rfl, _, _, _, _, _, rfl, .ty _, kv.ty, kv.kit, _, rfl, ifF rfl ?_⟩
      refine ⟨_, rfl, by show 2 ≤ sizeLine; decide, fun tp htp => ?_⟩
      have s1 := Same.new (o := .tup [.ty "int", .ty "str"]) htp
      have ku1 := ku.keep s1
      have kv1 := kv.keep s1
      refine ⟨_, tp, _, _, _, _, rfl, upd_same, .cons (.ty _) (.cons (.ty _) .nil), ku1.ty, ku1.kit2, _, rfl, ifF rfl ?_⟩
      refine ⟨_, rfl, _, _, _, _, _, rfl, .ty _, ku1.ty, ku1.kit, _, rfl, _, _, _, _, _, rfl, .ty _, kv1.ty, kv1.kit, rfl, _, rfl, ifF rfl ?_⟩
      refine ⟨_, rfl, _, _, _, _, _, rfl, .ty _, ku1.ty, ku1.kit, _, rfl, _, _, _, _, _, rfl, .ty _, kv1.ty, kv1.kit, rfl, _, rfl, ifF rfl ?_⟩
      have l1 := dpAll_len a1
      have l2 := dpAll_len a2
      refine ⟨_, rfl, _, _, rfl, .inr ⟨_, s1.tup h1, rfl⟩, _, rfl, _, _, rfl, .inr ⟨_, s1.tup h2, rfl⟩, rfl, _, rfl, ifF (by rw [l1, l2]; simp) ?_⟩
      refine ⟨_, rfl, _, rfl, av, au, xv, xu, rfl, .inr ⟨s1.tup h1, s1.tup h2, fun D hD => ?_⟩⟩
      refine lc_map (walk_zipT (n := ds.length) (by rw [l1, l2, Nat.min_self])) (fun _ => V.bl true) (by omega) hD (fun H' s2 => ⟨(s1.trans s2).tup h1, (s1.trans s2).tup h2⟩) ?_ ?_
      · rintro i z H' H'' Q' Z hi s2 ⟨t, x, y, rfl, ht, rfl, hx, hy⟩ q'
        refine ⟨t, _, rfl, SqT.of upd_same, rfl, _, _, rfl, _, _, rfl, rfl, rfl, yesI ?_⟩
        obtain ⟨d, d1, d2, d3⟩ := same_zip (H := H) (K := K) (n := m) a1 a2 hds hx hy
        have s3 := (s1.trans s2).trans (Same.new (o := .tup [x, y]) ht)
        exact ⟨_, rfl, _, rfl, x, y, d, rfl, dp_keep s3 d1, dp_keep s3 d2, d3, fun H4 s4 => q' H4 ((Same.new ht).trans s4)⟩
      · intro H' s2 hD'
        refine ⟨D, _, rfl, .inl (SqL.of hD'), rfl, flat_trues _, ?_⟩
        refine Q_bl (q H' (s1.trans s2)) ?_
        rw [in_trues]
        rfl
theorem ok_law_same (T : Txt K mg) : FnOk P w K mg base CX0 12 T.f_law_same T.d_law_same ["found", "due"] (sp_law_same K 11) := by
  have step : ∀ n, FnOk P w K mg base CX0 (n + 1) T.f_law_same T.d_law_same ["found", "due"] (sp_law_same K n) := by
    intro n
    induction n with
    | zero => exact ok_law_same__rec T 0 0 ⟨fun _ _ _ _ h => h.elim, fun _ _ _ _ _ _ _ _ _ _ _ _ _ h => h.elim⟩
    | succ m ih => exact ok_law_same__rec T (m + 1) (m + 1) ih
  exact step 11


theorem ok_law_instruction_octets (T : Txt K mg) : FnOk P w K mg base CX0 3 T.f_law_instruction_octets T.d_law_instruction_octets ["one"] (sp_write_ins K) := by
  refine T.F_law_instruction_octets.ok sc_law_instruction_octets (fun vs H Q E h => ?_) (fun cdv A outer s H vs Q E hr h => ?_)
  · obtain ⟨v, i, rfl, _⟩ := h
    rfl
  · obtain ⟨v, i, rfl, ⟨a, rfl, hs⟩, ok, q⟩ := h
    refine ⟨_, (pss_cons (ps_set (i := 1) sc_law_instruction_octets.nd rfl (Or.inl rfl) (pe_ix ix_tup (pv 0) pe_int (fun _ _ => rfl)))
      (pss_cons (ps_if (pt_cmpR op_eq (pv 1) pe_str (nomark _)) (pss_one (ps_ret (pe_call (ok_law_number_octets T) (hr.mono (by decide)) rfl T.g_law_number_octets T.F_law_number_octets.kp T.b_law_number_octets .nil pass0 (pa_cons (pe_ix ix_tup (pv 0) pe_int (fun _ _ => rfl)) (pa_cons pe_int (pa_cons pe_int pa_nil)))))) pss_nil)
      (pss_cons (ps_if (pt_cmpR op_eq (pv 1) pe_str (nomark _)) (pss_one (ps_ret (pe_call (ok_law_number_octets T) (hr.mono (by decide)) rfl T.g_law_number_octets T.F_law_number_octets.kp T.b_law_number_octets .nil pass0 (pa_cons (pe_ix ix_tup (pv 0) pe_int (fun _ _ => rfl)) (pa_cons pe_int (pa_cons pe_int pa_nil)))))) pss_nil)
      (pss_cons (ps_if (pt_cmpR op_eq (pv 1) pe_str (nomark _)) (pss_one (ps_ret (pe_op op_cat (pe_call (ok_law_text_octets T) (hr.mono (by decide)) rfl T.g_law_text_octets T.F_law_text_octets.kp T.b_law_text_octets .nil pass0 (pa_cons (pe_ix ix_tup (pv 0) pe_int (fun _ _ => rfl)) (pa_cons pe_int (pa_cons pe_int pa_nil)))) (pe_call (ok_law_text_octets T) (hr.mono (by decide)) rfl T.g_law_text_octets T.F_law_text_octets.kp T.b_law_text_octets .nil pass0 (pa_cons (pe_ix ix_tup (pv 0) pe_int (fun _ _ => rfl)) (pa_cons pe_int (pa_cons pe_int pa_nil))))))) pss_nil)
      (pss_one (ps_ret (pe_op op_cat (pe_call (ok_law_number_octets T) (hr.mono (by decide)) rfl T.g_law_number_octets T.F_law_number_octets.kp T.b_law_number_octets .nil pass0 (pa_cons (pe_ix ix_tup (pv 0) pe_int (fun _ _ => rfl)) (pa_cons pe_int (pa_cons (pe_ifExp (pt_cmpR op_eq (pv 1) pe_str (nomark _)) pe_int pe_int) pa_nil)))) (pe_call (ok_law_text_octets T) (hr.mono (by decide)) rfl T.g_law_text_octets T.F_law_text_octets.kp T.b_law_text_octets .nil pass0 (pa_cons (pe_ix ix_tup (pv 0) pe_int (fun _ _ => rfl)) (pa_cons pe_int (pa_cons pe_int pa_nil))))))))))), ?_⟩
    cases i with
    | again n =>
      refine ⟨_, rfl, _, _, _, _, rfl, rfl, hs, rfl, ?_⟩
      refine ⟨_, rfl, rfl, _, rfl, ifT (by decide) ?_⟩
      exact ⟨_, rfl, _, _, _, _, rfl, rfl, hs, rfl, n, 5, 0, rfl, ok, by decide, q⟩
    | limit n =>
      refine ⟨_, rfl, _, _, _, _, rfl, rfl, hs, rfl, ?_⟩
      refine ⟨_, rfl, rfl, _, rfl, ifF (by decide) ⟨_, rfl, rfl, _, rfl, ifT (by decide) ?_⟩⟩
      exact ⟨_, rfl, _, _, _, _, rfl, rfl, hs, rfl, n, 5, 32, rfl, ok, by decide, q⟩
    | fixed n x =>
      refine ⟨_, rfl, _, _, _, _, rfl, rfl, hs, rfl, ?_⟩
      refine ⟨_, rfl, rfl, _, rfl, ifF (by decide) ⟨_, rfl, rfl, _, rfl, ifF (by decide) ⟨_, rfl, rfl, _, rfl, ifF (by decide) ?_⟩⟩⟩
      have xl := txt_len ok.2
      refine ⟨_, rfl, _, _, _, _, rfl, rfl, hs, rfl, _, rfl, rfl, _, rfl, ifT (by decide) ⟨n, 6, 192, rfl, ok.1, by decide, fun p H2 hp s2 g2 => ?_⟩⟩
      refine ⟨_, rfl, _, _, _, _, rfl, rfl, s2.tup hs, rfl, x, 7, 0, rfl, by omega, by decide, fun p3 H3 hp3 s3 g3 => ?_⟩
      rw [codes_chars (txt_all ok.2)] at g3
      have l1 := numOct_len n 6 192
      have l2 := strOct_len (b := 7) (m := 0) xl
      have l3 := ok.1
      exact cat_go q (s2.trans s3) (s3 _ _ g2) g3 (by omega)
    | entry n x =>
      refine ⟨_, rfl, _, _, _, _, rfl, rfl, hs, rfl, ?_⟩
      refine ⟨_, rfl, rfl, _, rfl, ifF (by decide) ⟨_, rfl, rfl, _, rfl, ifF (by decide) ⟨_, rfl, rfl, _, rfl, ifF (by decide) ?_⟩⟩⟩
      have xl := txt_len ok.2
      refine ⟨_, rfl, _, _, _, _, rfl, rfl, hs, rfl, _, rfl, rfl, _, rfl, ifF (by decide) ⟨n, 6, 128, rfl, ok.1, by decide, fun p H2 hp s2 g2 => ?_⟩⟩
      refine ⟨_, rfl, _, _, _, _, rfl, rfl, s2.tup hs, rfl, x, 7, 0, rfl, by omega, by decide, fun p3 H3 hp3 s3 g3 => ?_⟩
      rw [codes_chars (txt_all ok.2)] at g3
      have l1 := numOct_len n 6 128
      have l2 := strOct_len (b := 7) (m := 0) xl
      have l3 := ok.1
      exact cat_go q (s2.trans s3) (s3 _ _ g2) g3 (by omega)
    | new y x =>
      refine ⟨_, rfl, _, _, _, _, rfl, rfl, hs, rfl, ?_⟩
      refine ⟨_, rfl, rfl, _, rfl, ifF (by decide) ⟨_, rfl, rfl, _, rfl, ifF (by decide) ⟨_, rfl, rfl, _, rfl, ifT (by decide) ?_⟩⟩⟩
      have xl := txt_len ok.2
      have yl := txt_len (txt_20 ok.1)
      refine ⟨_, rfl, _, _, _, _, rfl, rfl, hs, rfl, y, 5, 64, rfl, by omega, by decide, fun p H2 hp s2 g2 => ?_⟩
      refine ⟨_, rfl, _, _, _, _, rfl, rfl, s2.tup hs, rfl, x, 7, 0, rfl, by omega, by decide, fun p3 H3 hp3 s3 g3 => ?_⟩
      rw [codes_chars (txt_all ok.2)] at g3
      rw [codes_chars (txt_all ok.1)] at g2
      have l1 := strOct_len (b := 5) (m := 64) yl
      have l2 := strOct_len (b := 7) (m := 0) xl
      exact cat_go q (s2.trans s3) (s3 _ _ g2) g3 (by omega)

theorem ok_law_answer_octets (T : Txt K mg) : FnOk P w K mg base CX0 2 T.f_law_answer_octets T.d_law_answer_octets ["one"] (sp_write_ans K) := by
  refine T.F_law_answer_octets.ok sc_law_answer_octets (fun vs H Q E h => ?_) (fun cdv A outer s H vs Q E hr h => ?_)
  · obtain ⟨v, i, rfl, _⟩ := h
    rfl
  · obtain ⟨v, i, rfl, ⟨a, rfl, hs⟩, ok, q⟩ := h
    refine ⟨_, (pss_cons (ps_if (pt_cmpR op_eq (pe_ix ix_tup (pv 0) pe_int (fun _ _ => rfl)) pe_str (nomark _)) (pss_one (ps_ret (pe_call (ok_law_number_octets T) (hr.mono (by decide)) rfl T.g_law_number_octets T.F_law_number_octets.kp T.b_law_number_octets .nil pass0 (pa_cons (pe_ix ix_tup (pv 0) pe_int (fun _ _ => rfl)) (pa_cons pe_int (pa_cons pe_int pa_nil)))))) pss_nil)
      (pss_one (ps_ret (pe_call (ok_law_number_octets T) (hr.mono (by decide)) rfl T.g_law_number_octets T.F_law_number_octets.kp T.b_law_number_octets .nil pass0 (pa_cons (pe_ix ix_tup (pv 0) pe_int (fun _ _ => rfl)) (pa_cons pe_int (pa_cons (pe_ifExp (pt_cmpR op_eq (pe_ix ix_tup (pv 0) pe_int (fun _ _ => rfl)) pe_str (nomark _)) pe_int pe_int) pa_nil))))))), ?_⟩
    cases i with
    | done n =>
      have h : n ≤ 20 := ok
      refine ⟨_, rfl, _, _, _, _, rfl, rfl, hs, rfl, rfl, _, rfl, ifT (by decide) ?_⟩
      exact ⟨_, rfl, _, _, _, _, rfl, rfl, hs, rfl, n, 7, 128, rfl, by omega, by decide, q⟩
    | cancelled n =>
      have h : n ≤ 20 := ok
      refine ⟨_, rfl, _, _, _, _, rfl, rfl, hs, rfl, rfl, _, rfl, ifF (by decide) ?_⟩
      refine ⟨_, rfl, _, _, _, _, rfl, rfl, hs, rfl, ?_⟩
      refine ⟨_, rfl, _, _, _, _, rfl, rfl, hs, rfl, rfl, _, rfl, ifT (by decide) ⟨n, 6, 64, rfl, by omega, by decide, q⟩⟩
    | received n =>
      have h := ok.2
      refine ⟨_, rfl, _, _, _, _, rfl, rfl, hs, rfl, rfl, _, rfl, ifF (by decide) ?_⟩
      refine ⟨_, rfl, _, _, _, _, rfl, rfl, hs, rfl, ?_⟩
      refine ⟨_, rfl, _, _, _, _, rfl, rfl, hs, rfl, rfl, _, rfl, ifF (by decide) ⟨n, 6, 0, rfl, by omega, by decide, q⟩⟩

theorem ok_law_draw_instruction (T : Txt K mg) : FnOk P w K mg base CX0 5 T.f_law_draw_instruction T.d_law_draw_instruction ["pen"] sp_law_draw_ins := by
  refine T.F_law_draw_instruction.ok sc_law_draw_instruction (fun vs H Q E h => ?_) (fun cdv A outer s H vs Q E hr h => ?_)
  · obtain ⟨p, c, n, rfl, _⟩ := h
    rfl
  · obtain ⟨p, c, n, rfl, hp, hn, q⟩ := h
    refine ⟨_, (pss_cons (ps_set (i := 1) sc_law_draw_instruction.nd rfl (Or.inl rfl) (pe_call (ok_law_one_of T) (hr.mono (by decide)) rfl T.g_law_one_of T.F_law_one_of.kp T.b_law_one_of .nil pass0 (pa_cons (pv 0) (pa_cons (pe_lst (pa_cons pe_str (pa_cons pe_str (pa_cons pe_str (pa_cons pe_str (pa_cons pe_str pa_nil)))))) pa_nil))))
      (pss_cons (ps_if (pt_cmpR op_eq (pv 1) pe_str (nomark _)) (pss_one (ps_ret (pe_tup (pa_cons (pv 1) (pa_cons (pe_call (ok_law_draw_text T) (hr.mono (by decide)) rfl T.g_law_draw_text T.F_law_draw_text.kp T.b_law_draw_text .nil pass0 (pa_cons (pv 0) (pa_cons pe_int (pa_cons pe_int pa_nil)))) (pa_cons (pe_call (ok_law_draw_text T) (hr.mono (by decide)) rfl T.g_law_draw_text T.F_law_draw_text.kp T.b_law_draw_text .nil pass0 (pa_cons (pv 0) (pa_cons pe_int (pa_cons pe_int pa_nil)))) pa_nil)))))) pss_nil)
      (pss_cons (ps_if (PW.pt (pw_or (pt_cmpR op_eq (pv 1) pe_str (nomark _)) (pw_or1 (pt_cmpR op_eq (pv 1) pe_str (nomark _))))) (pss_one (ps_ret (pe_tup (pa_cons (pv 1) (pa_cons (pe_call (ok_law_draw_number T) (hr.mono (by decide)) rfl T.g_law_draw_number T.F_law_draw_number.kp T.b_law_draw_number .nil pass0 (pa_cons (pv 0) pa_nil)) pa_nil))))) pss_nil)
      (pss_one (ps_ret (pe_tup (pa_cons (pv 1) (pa_cons (pe_call (ok_law_draw_number T) (hr.mono (by decide)) rfl T.g_law_draw_number T.F_law_draw_number.kp T.b_law_draw_number .nil pass0 (pa_cons (pv 0) pa_nil)) (pa_cons (pe_call (ok_law_draw_text T) (hr.mono (by decide)) rfl T.g_law_draw_text T.F_law_draw_text.kp T.b_law_draw_text .nil pass0 (pa_cons (pv 0) (pa_cons pe_int (pa_cons pe_int pa_nil)))) pa_nil))))))))), ?_⟩
    refine ⟨_, rfl, by show 5 ≤ sizeLine; decide, fun l hl => ?_⟩
    refine ⟨p, c, l, n, _, rfl, hp.keep (Same.new hl), SqL.of upd_same, Ne.symm (hp.ne hl), by simp, by simp, by omega, fun x H2 hx d => ?_⟩
    have d1 : Drew p c H H2 (n + 1) := ⟨d.pen, (But.new hl).trans d.but⟩
    have num : ∀ (c0 : Str) (Q' : V → Hp → Prop), True := fun _ _ => True.intro
    simp only [List.mem_cons, List.not_mem_nil, or_false] at hx
    rcases hx with h | h | h | h | h <;> subst h
    · refine ⟨_, rfl, rfl, _, rfl, ifF (by decide) ⟨_, rfl, rfl, _, rfl, ifF (by decide) ⟨_, rfl, rfl, _, rfl, ifF (by decide) ?_⟩⟩⟩
      refine ⟨_, rfl, _, rfl, p, c, n + 1, rfl, d1.pen, by omega, fun z H3 hz d3 => ?_⟩
      refine ⟨_, rfl, p, c, n + 1 + 10, 0, 40, rfl, d3.pen, by omega, by decide, by decide, by decide, fun x H4 hx d4 => ?_⟩
      refine ⟨by show 3 ≤ sizeLine; decide, fun t ht => ?_⟩
      have dd := (d1.trans d3).trans d4
      exact q t (.fixed z x) _ upd_same ⟨hz, hx⟩ ((dd.keep (Same.new ht)).mono (by omega))
    · refine ⟨_, rfl, rfl, _, rfl, ifF (by decide) ⟨_, rfl, rfl, _, rfl, ifF (by decide) ⟨_, rfl, rfl, _, rfl, ifF (by decide) ?_⟩⟩⟩
      refine ⟨_, rfl, _, rfl, p, c, n + 1, rfl, d1.pen, by omega, fun z H3 hz d3 => ?_⟩
      refine ⟨_, rfl, p, c, n + 1 + 10, 0, 40, rfl, d3.pen, by omega, by decide, by decide, by decide, fun x H4 hx d4 => ?_⟩
      refine ⟨by show 3 ≤ sizeLine; decide, fun t ht => ?_⟩
      have dd := (d1.trans d3).trans d4
      exact q t (.entry z x) _ upd_same ⟨hz, hx⟩ ((dd.keep (Same.new ht)).mono (by omega))
    · refine ⟨_, rfl, rfl, _, rfl, ifT (by decide) ?_⟩
      refine ⟨_, rfl, _, rfl, p, c, n + 1, 1, 20, rfl, d1.pen, by omega, by decide, by decide, by decide, fun y H3 hy d3 => ?_⟩
      refine ⟨_, rfl, p, c, n + 1 + 50, 0, 40, rfl, d3.pen, by omega, by decide, by decide, by decide, fun x H4 hx d4 => ?_⟩
      refine ⟨by show 3 ≤ sizeLine; decide, fun t ht => ?_⟩
      have dd := (d1.trans d3).trans d4
      exact q t (.new y x) _ upd_same ⟨hy, hx⟩ ((dd.keep (Same.new ht)).mono (by omega))
    · refine ⟨_, rfl, rfl, _, rfl, ifF (by decide) ⟨_, rfl, rfl, _, rfl, ifT (by decide) ?_⟩⟩
      refine ⟨_, rfl, _, rfl, p, c, n + 1, rfl, d1.pen, by omega, fun z H3 hz d3 => ?_⟩
      refine ⟨by show 2 ≤ sizeLine; decide, fun t ht => ?_⟩
      have dd := d1.trans d3
      exact q t (.again z) _ upd_same hz ((dd.keep (Same.new ht)).mono (by omega))
    · refine ⟨_, rfl, rfl, _, rfl, ifF (by decide) ⟨_, rfl, rfl, _, rfl, ifF (by decide) ⟨_, rfl, rfl, _, rfl, ifT (by decide) ?_⟩⟩⟩
      refine ⟨_, rfl, _, rfl, p, c, n + 1, rfl, d1.pen, by omega, fun z H3 hz d3 => ?_⟩
      refine ⟨by show 2 ≤ sizeLine; decide, fun t ht => ?_⟩
      have dd := d1.trans d3
      exact q t (.limit z) _ upd_same hz ((dd.keep (Same.new ht)).mono (by omega))
theorem ok_law_draw_answer (T : Txt K mg) : FnOk P w K mg base CX0 5 T.f_law_draw_answer T.d_law_draw_answer ["pen"] sp_law_draw_ans := by
  refine T.F_law_draw_answer.ok sc_law_draw_answer (fun vs H Q E h => ?_) (fun cdv A outer s H vs Q E hr h => ?_)
  · obtain ⟨p, c, n, rfl, _⟩ := h
    rfl
  · obtain ⟨p, c, n, rfl, hp, hn, q⟩ := h
    refine ⟨_, (pss_cons (ps_set (i := 1) sc_law_draw_answer.nd rfl (Or.inl rfl) (pe_call (ok_law_one_of T) (hr.mono (by decide)) rfl T.g_law_one_of T.F_law_one_of.kp T.b_law_one_of .nil pass0 (pa_cons (pv 0) (pa_cons (pe_lst (pa_cons pe_str (pa_cons pe_str (pa_cons pe_str pa_nil)))) pa_nil))))
      (pss_one (ps_ret (pe_tup (pa_cons (pv 1) (pa_cons (pe_ifExp (pt_cmpR op_eq (pv 1) pe_str (nomark _)) (pe_callB (call_max2 rfl) rfl T.z_max boot_max (pa_cons pe_int (pa_cons (pe_call (ok_law_draw_number T) (hr.mono (by decide)) rfl T.g_law_draw_number T.F_law_draw_number.kp T.b_law_draw_number .nil pass0 (pa_cons (pv 0) pa_nil)) pa_nil))) (pe_call (ok_law_take T) (hr.mono (by decide)) rfl T.g_law_take T.F_law_take.kp T.b_law_take .nil pass0 (pa_cons (pv 0) (pa_cons pe_int pa_nil)))) pa_nil)))))), ?_⟩
    refine ⟨_, rfl, by show 3 ≤ sizeLine; decide, fun l hl => ?_⟩
    refine ⟨p, c, l, n, _, rfl, hp.keep (Same.new hl), SqL.of upd_same, Ne.symm (hp.ne hl), by simp, by simp, by omega, fun x H2 hx d => ?_⟩
    have d1 : Drew p c H H2 (n + 1) := ⟨d.pen, (But.new hl).trans d.but⟩
    simp only [List.mem_cons, List.not_mem_nil, or_false] at hx
    rcases hx with h | h | h <;> subst h
    · refine ⟨_, rfl, _, rfl, rfl, _, rfl, ifF (by decide) ?_⟩
      refine ⟨_, rfl, p, c, n + 1, 21, rfl, d1.pen, by decide, by decide, by omega, fun r H3 h0 h1 d3 => ?_⟩
      refine ⟨by show 2 ≤ sizeLine; decide, fun t ht => ?_⟩
      obtain ⟨z, rfl⟩ : ∃ z : Nat, r = (z : Int) := ⟨r.toNat, by omega⟩
      exact q t (.done z) _ upd_same (by show z ≤ 20; omega) (((d1.trans d3).keep (Same.new ht)).mono (by omega))
    · refine ⟨_, rfl, _, rfl, rfl, _, rfl, ifF (by decide) ?_⟩
      refine ⟨_, rfl, p, c, n + 1, 21, rfl, d1.pen, by decide, by decide, by omega, fun r H3 h0 h1 d3 => ?_⟩
      refine ⟨by show 2 ≤ sizeLine; decide, fun t ht => ?_⟩
      obtain ⟨z, rfl⟩ : ∃ z : Nat, r = (z : Int) := ⟨r.toNat, by omega⟩
      exact q t (.cancelled z) _ upd_same (by show z ≤ 20; omega) (((d1.trans d3).keep (Same.new ht)).mono (by omega))
    · refine ⟨_, rfl, _, rfl, rfl, _, rfl, ifT (by decide) ?_⟩
      refine ⟨_, rfl, p, c, n + 1, rfl, d1.pen, by omega, fun z H3 hz d3 => ?_⟩
      refine ⟨_, _, rfl, ?_⟩
      refine ⟨by show 2 ≤ sizeLine; decide, fun t ht => ?_⟩
      have e : (if (z : Int) > 1 then (z : Int) else 1) = ((max 1 z : Nat) : Int) := by split <;> omega
      have := q t (.received (max 1 z)) (upd H3 t (.tup [.str "received", .int (if (z : Int) > 1 then (z : Int) else 1)])) (by rw [upd_same, e]; rfl) ⟨by omega, by omega⟩ (((d1.trans d3).keep (Same.new ht)).mono (by omega))
      exact this

theorem ok_law_bent_octets (T : Txt K mg) : FnOk P w K mg base CX0 4 T.f_law_bent_octets T.d_law_bent_octets ["pen", "octets"] sp_law_bent_octets := by
  refine T.F_law_bent_octets.ok sc_law_bent_octets (fun vs H Q E h => ?_) (fun cdv A outer s H vs Q E hr h => ?_)
  · obtain ⟨p, c, n, a, os, rfl, _⟩ := h
    rfl
  · obtain ⟨p, c, n, a, os, rfl, nap, hp, ha, hlen, hos, hn, q⟩ := h
    refine ⟨_, (pss_cons (ps_par3 (i := 2) (j := 3) (l := 4) rfl sc_law_bent_octets.nd rfl rfl rfl (by decide) (by decide) (by decide) rfl rfl rfl (pa_cons (pe_callTy call_list_of rfl T.z_list boot_list (pa_cons (pv 1) pa_nil)) (pa_cons (pe_call (ok_law_take T) (hr.mono (by decide)) rfl T.g_law_take T.F_law_take.kp T.b_law_take .nil pass0 (pa_cons (pv 0) (pa_cons pe_int pa_nil))) (pa_cons (pe_call (ok_law_take T) (hr.mono (by decide)) rfl T.g_law_take T.F_law_take.kp T.b_law_take .nil pass0 (pa_cons (pv 0) (pa_cons (pe_op op_add (pe_callB call_len rfl T.z_len boot_len (pa_cons (pv 1) pa_nil)) pe_int) pa_nil))) pa_nil))) (by rfl))
      (pss_cons (ps_set (i := 5) sc_law_bent_octets.nd rfl (Or.inl rfl) (pe_call (ok_law_one_of T) (hr.mono (by decide)) rfl T.g_law_one_of T.F_law_one_of.kp T.b_law_one_of .nil pass0 (pa_cons (pv 0) (pa_cons (pe_lst (pa_cons pe_int (pa_cons pe_int (pa_cons pe_int (pa_cons pe_int (pa_cons pe_int (pa_cons pe_int (pa_cons pe_int (pa_cons pe_int (pa_cons pe_int (pa_cons pe_int (pa_cons pe_int (pa_cons pe_int (pa_cons pe_int (pa_cons (pe_call (ok_law_take T) (hr.mono (by decide)) rfl T.g_law_take T.F_law_take.kp T.b_law_take .nil pass0 (pa_cons (pv 0) (pa_cons pe_int pa_nil))) pa_nil))))))))))))))) pa_nil))))
      (pss_cons (ps_if (pt_cmpR op_eq (pv 3) pe_int (nomark _)) (pss_one (ps_ret (pe_slice sl_list (pv 2) po_none (po_some (pv 4))))) pss_nil)
      (pss_cons (ps_if (pt_cmpR op_eq (pv 3) pe_int (nomark _)) (pss_one (ps_expr (pe_bm PySem.F.plainAttrs_list PySem.F.slot_list_insert PySem.F.type_list_insert mt_insert (pv 2) (pa_cons (pv 4) (pa_cons (pv 5) pa_nil))))) (pss_one (ps_if (PW.pt (pw_and (pt_cmpR op_eq (pv 3) pe_int (nomark _)) (pw_and1 (pt_cmpR op_lt (pv 4) (pe_callB call_len rfl T.z_len boot_len (pa_cons (pv 2) pa_nil)) (nomark _))))) (pss_one (ps_asg (pv 5) (pg_sub (pv 2) (pv 4) set_list))) (pss_one (ps_if (PW.pt (pw_and (pt_cmpR op_eq (pv 3) pe_int (nomark _)) (pw_and1 (pt_cmpR op_lt (pv 4) (pe_callB call_len rfl T.z_len boot_len (pa_cons (pv 2) pa_nil)) (nomark _))))) (pss_one (ps_expr (pe_bm PySem.F.plainAttrs_list PySem.F.slot_list_pop PySem.F.type_list_pop mt_popAt (pv 2) (pa_cons (pv 4) pa_nil)))) (pss_one (ps_if (pt_cmpR op_eq (pv 3) pe_int (nomark _)) (pss_one (ps_set (i := 2) sc_law_bent_octets.nd rfl (Or.inl rfl) (pe_op op_cat (pv 2) (pe_op op_rep (pe_lst (pa_cons (pv 5) pa_nil)) (pe_op op_add pe_int (pe_call (ok_law_take T) (hr.mono (by decide)) rfl T.g_law_take T.F_law_take.kp T.b_law_take .nil pass0 (pa_cons (pv 0) (pa_cons pe_int pa_nil)))))))) (pss_one (ps_if (PW.pt (pw_and (pt_cmpR op_eq (pv 3) pe_int (nomark _)) (pw_and1 (pt_cmpR op_lt (pv 4) (pe_callB call_len rfl T.z_len boot_len (pa_cons (pv 2) pa_nil)) (nomark _))))) (pss_cons (ps_asg (pe_ifExp (pt_cmpR op_lt (pe_ix ix_list (pv 2) (pv 4) (fun _ _ => rfl)) pe_int (nomark _)) (pe_op op_add (pe_ix ix_list (pv 2) (pv 4) (fun _ _ => rfl)) pe_int) (pe_op op_sub (pe_ix ix_list (pv 2) (pv 4) (fun _ _ => rfl)) pe_int)) (pg_sub (pv 2) (pv 4) set_list))
      (pss_one (ps_expr (pe_bm PySem.F.plainAttrs_list PySem.F.slot_list_insert PySem.F.type_list_insert mt_insert (pv 2) (pa_cons (pe_op op_add (pv 4) pe_int) (pa_cons (pe_call (ok_law_one_of T) (hr.mono (by decide)) rfl T.g_law_one_of T.F_law_one_of.kp T.b_law_one_of .nil pass0 (pa_cons (pv 0) (pa_cons (pe_lst (pa_cons pe_int (pa_cons pe_int (pa_cons pe_int (pa_cons pe_int (pa_cons pe_int pa_nil)))))) pa_nil))) pa_nil)))))) (pss_one (ps_setLc (i := 2) (own := [("again", 6)]) (g := (gName 6)) (tt := tYes)  rfl sc_law_bent_octets.nd rfl rfl (sw_true rfl rfl rfl (by decide +kernel)) (pi_range1 rfl T.z_range (pa_cons (pe_call (ok_law_take T) (hr.mono (by decide)) rfl T.g_law_take T.F_law_take.kp T.b_law_take .nil pass0 (pa_cons (pv 0) (pa_cons pe_int pa_nil))) pa_nil)) (blkOk_by (own := [("again", 6)]) (N := ["pen", "octets", "found", "way", "spot", "odd", "again"]) (sc := defScope s_law_bent_octets) (by decide +kernel)) (fun _ _ _ _ _ => (pg_name (i := 6) sc_law_bent_octets.nd rfl (Or.inl rfl))) (fun _ _ _ _ _ => pts_nil) (fun _ _ _ _ _ => (pe_call (ok_law_take T) (hr.mono (by decide)) rfl T.g_law_take T.F_law_take.kp T.b_law_take .nil pass0 (pa_cons (pv 0) (pa_cons pe_int pa_nil)))))))))))))))
      (pss_one (ps_ret (pv 2))))))), ?_⟩
    refine ⟨_, rfl, a, _, rfl, .inl (SqL.of ha), fun f hf => ?_⟩
    have s0 : Same H (upd H f (.lst (os.map V.int))) := Same.new hf
    have npf := hp.ne hf
    have ncf := hp.nec hf
    refine ⟨_, rfl, p, c, n, 7, rfl, hp.keep s0, by decide, by decide, by omega, fun wy H1 hw0 hw1 d1 => ?_⟩
    have gf1 : H1 f = some (.lst (os.map V.int)) := d1.but f _ (Ne.symm npf) upd_same
    have ga1 := d1.but a _ nap (s0 _ _ ha)
    have D1 : Drew p c H H1 (n + 1) := Drew.pre s0 d1
    refine ⟨_, rfl, _, rfl, _, _, rfl, lenL (SqL.of ga1), _, _, rfl, rfl, p, c, n + 1, _, rfl, d1.pen, by omega, by rw [List.length_map]; omega, by omega, fun sp H2 hs0 hs1 d2 => ⟨_, _, _, rfl, ?_⟩⟩
    rw [List.length_map] at hs1
    have gf2 := d2.but f _ (Ne.symm npf) gf1
    have D2 := D1.trans d2
    refine ⟨_, rfl, _, rfl, p, c, n + 2, 256, rfl, d2.pen, by decide, by decide, by omega, fun o3 H3 ho0 ho1 d3 => ?_⟩
    refine ⟨by show 14 ≤ sizeLine; decide, fun l hl => ?_⟩
    have gf3 := d3.but f _ (Ne.symm npf) gf2
    have D3 := D2.trans d3
    refine ⟨p, c, l, n + 3, _, rfl, d3.pen.keep (Same.new hl), SqL.of upd_same, Ne.symm (d3.pen.ne hl), by simp, by simp, by omega, fun x H4 hx d4 => ?_⟩
    have hx' : ∃ o : Int, x = .int o ∧ (0 ≤ o ∧ o < 256) := by
      simp only [List.mem_cons, List.not_mem_nil, or_false] at hx
      rcases hx with h | h | h | h | h | h | h | h | h | h | h | h | h | h
      all_goals first | exact ⟨_, h, by decide, by decide⟩ | exact ⟨_, h, ho0, ho1⟩
    obtain ⟨od, rfl, hod⟩ := hx'
    have gf4 : H4 f = some (.lst (os.map V.int)) := d4.but f _ (Ne.symm npf) (Same.new hl _ _ gf3)
    have D4 : Drew p c H H4 (n + 4) := D3.trans (Drew.pre (Same.new hl) d4)
    obtain ⟨k, rfl⟩ : ∃ k : Nat, sp = (k : Int) := ⟨sp.toNat, by omega⟩
    have hk : k ≤ os.length := by omega
    have put : ∀ (xs : List V), Drew p c H (upd H4 f (.lst xs)) (n + 4) := fun xs => ⟨D4.pen.upd npf ncf, D4.but.put hf⟩
    have lenF : LenV K (.ref f) H4 os.length := by have := lenL (K := K) (SqL.of gf4); rw [List.length_map] at this; exact this
    have free5 : ∀ (H5 : Hp) (m : Nat), Drew p c H H5 m → ∀ b, H5 b = none → H b = none := by
      intro H5 m D5 b hb
      cases e : H b with
      | none => rfl
      | some o =>
        by_cases z : b = p
        · subst z
          obtain ⟨⟨ys, hy⟩, _⟩ := D5.pen.some
          rw [hy] at hb; cases hb
        · rw [D5.but b o z e] at hb; cases hb
    have seven : wy = 0 ∨ wy = 1 ∨ wy = 2 ∨ wy = 3 ∨ wy = 4 ∨ wy = 5 ∨ wy = 6 := by omega
    rcases seven with h | h | h | h | h | h | h <;> subst h
    · refine ⟨_, rfl, rfl, _, rfl, ifT (by decide) ?_⟩
      refine ⟨_, rfl, _, rfl, _, rfl, f, _, rfl, SqL.of gf4, fun b hb => ?_⟩
      refine q b (os.take k) _ (free5 _ _ D4 b hb) ?_ (by rw [List.length_take]; omega) (octs_take hos k) ((D4.keep (Same.new hb)).mono (by omega))
      rw [upd_same, cut_to, List.map_take]
    · refine ⟨_, rfl, rfl, _, rfl, ifF (by decide) ?_⟩
      refine ⟨_, rfl, rfl, _, rfl, ifT (by decide) ?_⟩
      refine ⟨_, rfl, .inl ⟨rfl, _, SqL.of gf4⟩, _, rfl, _, rfl, f, _, _, _, rfl, rfl, gf4, by rw [List.length_map, sizeLine_eq]; omega, by omega, by omega, ?_⟩
      refine ⟨_, rfl, q f (os.take k ++ [od] ++ os.drop k) _ hf ?_ ?_ (octs_app (octs_app (octs_take hos k) (octs_one hod)) (octs_drop hos k)) ((put _).mono (by omega))⟩
      · rw [upd_same, Int.toNat_natCast, List.map_append, List.map_append, List.map_take, List.map_drop]
        rfl
      · rw [List.length_append, List.length_append, List.length_take, List.length_drop, List.length_singleton]; omega
    · refine ⟨_, rfl, rfl, _, rfl, ifF (by decide) ?_⟩
      refine ⟨_, rfl, rfl, _, rfl, ifF (by decide) ?_⟩
      refine ⟨_, rfl, rfl, _, rfl, ifT (by decide) ⟨_, rfl, _, rfl, _, _, rfl, lenF, _, _, rfl, rfl, _, rfl, ifb (fun h2 => ?_) (fun h2 => ?_)⟩⟩
      · have hlt : k < os.length := by have : (k : Int) < (os.length : Int) := of_decide_eq_true h2; omega
        have hget : os[k]? = some os[k] := List.getElem?_eq_getElem hlt
        have hgo := hos os[k] (List.getElem_mem hlt)
        refine ⟨_, rfl, _, rfl, _, rfl, f, _, _, k, rfl, rfl, gf4, Evl.ixN_nat (by rw [List.length_map]; exact hlt), ?_⟩
        · refine ⟨_, rfl, q f (os.set k od) _ hf ?_ (by rw [List.length_set]; omega) (octs_set hos hod) ((put _).mono (by omega))⟩
          rw [upd_same, List.map_set]
      · refine ⟨_, rfl, rfl, _, rfl, ifF (by decide) (ifF rfl ?_)⟩
        refine ⟨_, rfl, rfl, _, rfl, ifF (by decide) ?_⟩
        refine ⟨_, rfl, rfl, _, rfl, ifF (by decide) (ifF rfl ?_)⟩
        refine ⟨_, rfl, p, c, n + 4, 9, rfl, D4.pen, by decide, by decide, by omega, fun m H5 hm0 hm1 d5 => ?_⟩
        have D5 := D4.trans d5
        refine ⟨_, rfl, by omega, by omega, fun D hD => ?_⟩
        have hDH : H D = none := free5 H5 _ D5 D hD
        refine lc_gen walk_range (fun i ys H' => Drew p c H H' (n + 5 + i) ∧ ∃ bs : List Int, ys = bs.map V.int ∧ Octs bs ∧ bs.length = i) (by omega) ?_ (fun _ _ _ _ => True.intro) ?_ ?_
        · exact ⟨⟨(D5.pen.upd (D5.pen.ne hD) (D5.pen.nec hD)).mono (by omega), D5.but.put hDH⟩, [], rfl, fun _ z => (nomatch z), rfl⟩
        · rintro i ys x H' H'' Q' Z hi hl hDl ⟨dd, bs, rfl, hb, hbl⟩ ⟨rfl, rfl⟩ q'
          refine ⟨rfl, yesI ?_⟩
          refine ⟨_, rfl, p, c, n + 5 + i, 256, rfl, dd.pen, by decide, by decide, by omega, fun r6 H6 h60 h61 d6 => ?_⟩
          have npD : p ≠ D := D5.pen.ne hD
          have ncD : c ≠ D := D5.pen.nec hD
          refine q' _ H6 (d6.but D _ (Ne.symm npD) hDl) ⟨⟨(d6.pen.upd npD ncD).mono (by omega), (dd.but.trans d6.but).put hDH⟩, bs ++ [r6], ?_, octs_app hb (octs_one ⟨h60, h61⟩), by rw [List.length_append, hbl]; rfl⟩
          rw [List.map_append]; rfl
        · rintro ys H' hl hDl ⟨dd, bs, rfl, hb, hbl⟩
          exact ⟨_, rfl, q D bs H' hDH hDl (by omega) hb (dd.mono (by omega))⟩
    · refine ⟨_, rfl, rfl, _, rfl, ifF (by decide) ?_⟩
      refine ⟨_, rfl, rfl, _, rfl, ifF (by decide) ?_⟩
      refine ⟨_, rfl, rfl, _, rfl, ifF (by decide) (ifF rfl ?_)⟩
      refine ⟨_, rfl, rfl, _, rfl, ifT (by decide) ⟨_, rfl, _, rfl, _, _, rfl, lenF, _, _, rfl, rfl, _, rfl, ifb (fun h2 => ?_) (fun h2 => ?_)⟩⟩
      · have hlt : k < os.length := by have : (k : Int) < (os.length : Int) := of_decide_eq_true h2; omega
        have hget : os[k]? = some os[k] := List.getElem?_eq_getElem hlt
        have hgo := hos os[k] (List.getElem_mem hlt)
        refine ⟨_, rfl, .inl ⟨rfl, _, SqL.of gf4⟩, _, rfl, f, _, _, k, .int os[k], rfl, rfl, gf4, by omega, by omega, (ixN_seq (Evl.ixN_nat (by rw [List.length_map]; exact hlt))).1, by rw [List.getElem?_map, hget]; rfl, ?_⟩
        · refine ⟨_, rfl, q f (os.eraseIdx k) _ hf ?_ ?_ (octs_erase hos) ((put _).mono (by omega))⟩
          · rw [upd_same, map_erase]
          · have := List.length_eraseIdx_le os k
            omega
      · refine ⟨_, rfl, rfl, _, rfl, ifF (by decide) ?_⟩
        refine ⟨_, rfl, rfl, _, rfl, ifF (by decide) (ifF rfl ?_)⟩
        refine ⟨_, rfl, p, c, n + 4, 9, rfl, D4.pen, by decide, by decide, by omega, fun m H5 hm0 hm1 d5 => ?_⟩
        have D5 := D4.trans d5
        refine ⟨_, rfl, by omega, by omega, fun D hD => ?_⟩
        have hDH : H D = none := free5 H5 _ D5 D hD
        refine lc_gen walk_range (fun i ys H' => Drew p c H H' (n + 5 + i) ∧ ∃ bs : List Int, ys = bs.map V.int ∧ Octs bs ∧ bs.length = i) (by omega) ?_ (fun _ _ _ _ => True.intro) ?_ ?_
        · exact ⟨⟨(D5.pen.upd (D5.pen.ne hD) (D5.pen.nec hD)).mono (by omega), D5.but.put hDH⟩, [], rfl, fun _ z => (nomatch z), rfl⟩
        · rintro i ys x H' H'' Q' Z hi hl hDl ⟨dd, bs, rfl, hb, hbl⟩ ⟨rfl, rfl⟩ q'
          refine ⟨rfl, yesI ?_⟩
          refine ⟨_, rfl, p, c, n + 5 + i, 256, rfl, dd.pen, by decide, by decide, by omega, fun r6 H6 h60 h61 d6 => ?_⟩
          have npD : p ≠ D := D5.pen.ne hD
          have ncD : c ≠ D := D5.pen.nec hD
          refine q' _ H6 (d6.but D _ (Ne.symm npD) hDl) ⟨⟨(d6.pen.upd npD ncD).mono (by omega), (dd.but.trans d6.but).put hDH⟩, bs ++ [r6], ?_, octs_app hb (octs_one ⟨h60, h61⟩), by rw [List.length_append, hbl]; rfl⟩
          rw [List.map_append]; rfl
        · rintro ys H' hl hDl ⟨dd, bs, rfl, hb, hbl⟩
          exact ⟨_, rfl, q D bs H' hDH hDl (by omega) hb (dd.mono (by omega))⟩
    · refine ⟨_, rfl, rfl, _, rfl, ifF (by decide) ?_⟩
      refine ⟨_, rfl, rfl, _, rfl, ifF (by decide) ?_⟩
      refine ⟨_, rfl, rfl, _, rfl, ifF (by decide) (ifF rfl ?_)⟩
      refine ⟨_, rfl, rfl, _, rfl, ifF (by decide) (ifF rfl ?_)⟩
      refine ⟨_, rfl, rfl, _, rfl, ifT (by decide) ?_⟩
      refine ⟨_, rfl, _, rfl, by show 1 ≤ sizeLine; decide, fun l4 hl4 => ?_⟩
      have s4 : Same H4 (upd H4 l4 (.lst [.int od])) := Same.new hl4
      refine ⟨_, rfl, p, c, n + 4, 3, rfl, D4.pen.keep s4, by decide, by decide, by omega, fun m H5 hm0 hm1 d5 => ?_⟩
      have D5 := D4.trans (Drew.pre s4 d5)
      have npl : l4 ≠ p := Ne.symm (D4.pen.ne hl4)
      have gl5 := d5.but l4 _ npl upd_same
      have gf5 := d5.but f _ (Ne.symm npf) (s4 _ _ gf4)
      obtain ⟨mm, hmm⟩ : ∃ mm : Nat, (1 : Int) + m = (mm : Int) := ⟨(1 + m).toNat, by omega⟩
      refine ⟨_, _, rfl, rfl, l4, _, _, rfl, rfl, gl5, by omega, by omega, ?_, fun l6 hl6 => ?_⟩
      · show 1 * ((1 : Int) + m).toNat ≤ sizeLine
        rw [sizeLine_eq]; omega
      have e6 : (List.replicate ((1 : Int) + m).toNat [V.int od]).flatten = (List.replicate mm od).map V.int := by
        rw [hmm, Int.toNat_natCast]
        clear hmm
        induction mm with
        | zero => rfl
        | succ j ih => rw [List.replicate_succ, List.flatten_cons, ih, List.replicate_succ, List.map_cons]; rfl
      rw [e6]
      have s6 : Same H5 (upd H5 l6 (.lst ((List.replicate mm od).map V.int))) := Same.new hl6
      have h6 := free5 _ _ (D5.keep s6)
      refine ⟨f, l6, _, _, rfl, rfl, s6 _ _ gf5, upd_same, by rw [List.length_map, List.length_map, List.length_replicate, sizeLine_eq]; omega, fun l7 hl7 => ?_⟩
      refine ⟨_, rfl, q l7 (os ++ List.replicate mm od) _ (h6 l7 hl7) ?_ (by rw [List.length_append, List.length_replicate]; omega) (octs_app hos fun x hx => by rw [(List.mem_replicate.mp hx).2]; exact hod) (((D5.keep s6).keep (Same.new hl7)).mono (by omega))⟩
      rw [upd_same, List.map_append]
    · refine ⟨_, rfl, rfl, _, rfl, ifF (by decide) ?_⟩
      refine ⟨_, rfl, rfl, _, rfl, ifF (by decide) ?_⟩
      refine ⟨_, rfl, rfl, _, rfl, ifF (by decide) (ifF rfl ?_)⟩
      refine ⟨_, rfl, rfl, _, rfl, ifF (by decide) (ifF rfl ?_)⟩
      refine ⟨_, rfl, rfl, _, rfl, ifF (by decide) ?_⟩
      refine ⟨_, rfl, rfl, _, rfl, ifT (by decide) ⟨_, rfl, _, rfl, _, _, rfl, lenF, _, _, rfl, rfl, _, rfl, ifb (fun h2 => ?_) (fun h2 => ?_)⟩⟩
      · have hlt : k < os.length := by have : (k : Int) < (os.length : Int) := of_decide_eq_true h2; omega
        have hget : os[k]? = some os[k] := List.getElem?_eq_getElem hlt
        have hgo := hos os[k] (List.getElem_mem hlt)
        refine ⟨_, rfl, _, rfl, f, _, _, _, rfl, rfl, SqL.of gf4, at_ofN rfl (by rw [List.getElem?_map, hget]; rfl), _, _, rfl, rfl, _, rfl, ifb (fun h3 => ?_) (fun h3 => ?_)⟩
        · have h3' : os[k] < 128 := of_decide_eq_true h3
          have hz : 0 ≤ os[k] + 128 ∧ os[k] + 128 < 256 := by omega
          refine ⟨_, rfl, _, rfl, f, _, _, _, rfl, rfl, SqL.of gf4, at_ofN rfl (by rw [List.getElem?_map, hget]; rfl), _, _, rfl, rfl, ?_⟩
          refine ⟨_, rfl, _, rfl, f, _, _, k, rfl, rfl, gf4, Evl.ixN_nat (by rw [List.length_map]; exact hlt), ?_⟩
          have P5 := (put ((os.map V.int).set k (.int (os[k] + 128))))
          have gf5 : (upd H4 f (.lst ((os.map V.int).set k (.int (os[k] + 128))))) f = some (.lst ((os.set k (os[k] + 128)).map V.int)) := by rw [upd_same, List.map_set]
          refine ⟨_, rfl, .inl ⟨rfl, _, SqL.of gf5⟩, _, rfl, _, _, rfl, rfl, _, rfl, by show 5 ≤ sizeLine; decide, fun l5 hl5 => ?_⟩
          refine ⟨p, c, l5, n + 4, _, rfl, P5.pen.keep (Same.new hl5), SqL.of upd_same, Ne.symm (P5.pen.ne hl5), by simp, by simp, by omega, fun x H7 hx d7 => ?_⟩
          have hx' : ∃ o : Int, x = .int o ∧ (0 ≤ o ∧ o < 256) := by
            simp only [List.mem_cons, List.not_mem_nil, or_false] at hx
            rcases hx with h | h | h | h | h
            all_goals exact ⟨_, h, by decide, by decide⟩
          obtain ⟨oe, rfl, hoe⟩ := hx'
          have gf7 := d7.but f _ (Ne.symm npf) (Same.new hl5 _ _ gf5)
          have D7 : Drew p c H H7 (n + 5) := P5.trans (Drew.pre (Same.new hl5) d7)
          refine ⟨f, _, _, _, rfl, rfl, gf7, by rw [List.length_map, List.length_set, sizeLine_eq]; omega, by omega, by omega, ?_⟩
          have hz2 := octs_set (k := k) hos hz
          refine ⟨_, rfl, q f ((os.set k (os[k] + 128)).take (k + 1) ++ [oe] ++ (os.set k (os[k] + 128)).drop (k + 1)) _ hf ?_ ?_ (octs_app (octs_app (octs_take hz2 _) (octs_one hoe)) (octs_drop hz2 _)) ((⟨D7.pen.upd npf ncf, D7.but.put hf⟩ : Drew p c H _ (n + 5)).mono (by omega))⟩
          · rw [upd_same, show ((k : Int) + 1).toNat = k + 1 by omega, List.map_append, List.map_append, List.map_take, List.map_drop]
            rfl
          · rw [List.length_append, List.length_append, List.length_take, List.length_drop, List.length_singleton, List.length_set]; omega
        · have h3' : ¬ os[k] < 128 := of_decide_eq_false h3
          have hz : 0 ≤ os[k] - 128 ∧ os[k] - 128 < 256 := by omega
          refine ⟨_, rfl, _, rfl, f, _, _, _, rfl, rfl, SqL.of gf4, at_ofN rfl (by rw [List.getElem?_map, hget]; rfl), _, _, rfl, rfl, ?_⟩
          refine ⟨_, rfl, _, rfl, f, _, _, k, rfl, rfl, gf4, Evl.ixN_nat (by rw [List.length_map]; exact hlt), ?_⟩
          have P5 := (put ((os.map V.int).set k (.int (os[k] - 128))))
          have gf5 : (upd H4 f (.lst ((os.map V.int).set k (.int (os[k] - 128))))) f = some (.lst ((os.set k (os[k] - 128)).map V.int)) := by rw [upd_same, List.map_set]
          refine ⟨_, rfl, .inl ⟨rfl, _, SqL.of gf5⟩, _, rfl, _, _, rfl, rfl, _, rfl, by show 5 ≤ sizeLine; decide, fun l5 hl5 => ?_⟩
          refine ⟨p, c, l5, n + 4, _, rfl, P5.pen.keep (Same.new hl5), SqL.of upd_same, Ne.symm (P5.pen.ne hl5), by simp, by simp, by omega, fun x H7 hx d7 => ?_⟩
          have hx' : ∃ o : Int, x = .int o ∧ (0 ≤ o ∧ o < 256) := by
            simp only [List.mem_cons, List.not_mem_nil, or_false] at hx
            rcases hx with h | h | h | h | h
            all_goals exact ⟨_, h, by decide, by decide⟩
          obtain ⟨oe, rfl, hoe⟩ := hx'
          have gf7 := d7.but f _ (Ne.symm npf) (Same.new hl5 _ _ gf5)
          have D7 : Drew p c H H7 (n + 5) := P5.trans (Drew.pre (Same.new hl5) d7)
          refine ⟨f, _, _, _, rfl, rfl, gf7, by rw [List.length_map, List.length_set, sizeLine_eq]; omega, by omega, by omega, ?_⟩
          have hz2 := octs_set (k := k) hos hz
          refine ⟨_, rfl, q f ((os.set k (os[k] - 128)).take (k + 1) ++ [oe] ++ (os.set k (os[k] - 128)).drop (k + 1)) _ hf ?_ ?_ (octs_app (octs_app (octs_take hz2 _) (octs_one hoe)) (octs_drop hz2 _)) ((⟨D7.pen.upd npf ncf, D7.but.put hf⟩ : Drew p c H _ (n + 5)).mono (by omega))⟩
          · rw [upd_same, show ((k : Int) + 1).toNat = k + 1 by omega, List.map_append, List.map_append, List.map_take, List.map_drop]
            rfl
          · rw [List.length_append, List.length_append, List.length_take, List.length_drop, List.length_singleton, List.length_set]; omega
      · refine ⟨_, rfl, p, c, n + 4, 9, rfl, D4.pen, by decide, by decide, by omega, fun m H5 hm0 hm1 d5 => ?_⟩
        have D5 := D4.trans d5
        refine ⟨_, rfl, by omega, by omega, fun D hD => ?_⟩
        have hDH : H D = none := free5 H5 _ D5 D hD
        refine lc_gen walk_range (fun i ys H' => Drew p c H H' (n + 5 + i) ∧ ∃ bs : List Int, ys = bs.map V.int ∧ Octs bs ∧ bs.length = i) (by omega) ?_ (fun _ _ _ _ => True.intro) ?_ ?_
        · exact ⟨⟨(D5.pen.upd (D5.pen.ne hD) (D5.pen.nec hD)).mono (by omega), D5.but.put hDH⟩, [], rfl, fun _ z => (nomatch z), rfl⟩
        · rintro i ys x H' H'' Q' Z hi hl hDl ⟨dd, bs, rfl, hb, hbl⟩ ⟨rfl, rfl⟩ q'
          refine ⟨rfl, yesI ?_⟩
          refine ⟨_, rfl, p, c, n + 5 + i, 256, rfl, dd.pen, by decide, by decide, by omega, fun r6 H6 h60 h61 d6 => ?_⟩
          have npD : p ≠ D := D5.pen.ne hD
          have ncD : c ≠ D := D5.pen.nec hD
          refine q' _ H6 (d6.but D _ (Ne.symm npD) hDl) ⟨⟨(d6.pen.upd npD ncD).mono (by omega), (dd.but.trans d6.but).put hDH⟩, bs ++ [r6], ?_, octs_app hb (octs_one ⟨h60, h61⟩), by rw [List.length_append, hbl]; rfl⟩
          rw [List.map_append]; rfl
        · rintro ys H' hl hDl ⟨dd, bs, rfl, hb, hbl⟩
          exact ⟨_, rfl, q D bs H' hDH hDl (by omega) hb (dd.mono (by omega))⟩
    · refine ⟨_, rfl, rfl, _, rfl, ifF (by decide) ?_⟩
      refine ⟨_, rfl, rfl, _, rfl, ifF (by decide) ?_⟩
      refine ⟨_, rfl, rfl, _, rfl, ifF (by decide) (ifF rfl ?_)⟩
      refine ⟨_, rfl, rfl, _, rfl, ifF (by decide) (ifF rfl ?_)⟩
      refine ⟨_, rfl, rfl, _, rfl, ifF (by decide) ?_⟩
      refine ⟨_, rfl, rfl, _, rfl, ifF (by decide) (ifF rfl ?_)⟩
      refine ⟨_, rfl, p, c, n + 4, 9, rfl, D4.pen, by decide, by decide, by omega, fun m H5 hm0 hm1 d5 => ?_⟩
      have D5 := D4.trans d5
      refine ⟨_, rfl, by omega, by omega, fun D hD => ?_⟩
      have hDH : H D = none := free5 H5 _ D5 D hD
      refine lc_gen walk_range (fun i ys H' => Drew p c H H' (n + 5 + i) ∧ ∃ bs : List Int, ys = bs.map V.int ∧ Octs bs ∧ bs.length = i) (by omega) ?_ (fun _ _ _ _ => True.intro) ?_ ?_
      · exact ⟨⟨(D5.pen.upd (D5.pen.ne hD) (D5.pen.nec hD)).mono (by omega), D5.but.put hDH⟩, [], rfl, fun _ z => (nomatch z), rfl⟩
      · rintro i ys x H' H'' Q' Z hi hl hDl ⟨dd, bs, rfl, hb, hbl⟩ ⟨rfl, rfl⟩ q'
        refine ⟨rfl, yesI ?_⟩
        refine ⟨_, rfl, p, c, n + 5 + i, 256, rfl, dd.pen, by decide, by decide, by omega, fun r6 H6 h60 h61 d6 => ?_⟩
        have npD : p ≠ D := D5.pen.ne hD
        have ncD : c ≠ D := D5.pen.nec hD
        refine q' _ H6 (d6.but D _ (Ne.symm npD) hDl) ⟨⟨(d6.pen.upd npD ncD).mono (by omega), (dd.but.trans d6.but).put hDH⟩, bs ++ [r6], ?_, octs_app hb (octs_one ⟨h60, h61⟩), by rw [List.length_append, hbl]; rfl⟩
        rw [List.map_append]; rfl
      · rintro ys H' hl hDl ⟨dd, bs, rfl, hb, hbl⟩
        exact ⟨_, rfl, q D bs H' hDH hDl (by omega) hb (dd.mono (by omega))⟩

theorem ok_law_read_number (T : Txt K mg) : FnOk P w K mg base CX0 1 T.f_law_read_number T.d_law_read_number ["octets", "place", "prefix", "least", "most"] (sp_rd_number K) := by
  refine T.F_law_read_number.ok sc_law_read_number (fun vs H Q E h => ?_) (fun cdv A outer s H vs Q E hr h => ?_)
  · obtain ⟨o, os, k, b, m, least, most, rfl, _⟩ := h
    rfl
  · obtain ⟨o, os, k, b, m, least, most, rfl, ho, hb8, hm, hmk, hle, hm9, q⟩ := h
    refine ⟨_, (pss_cons (ps_set (i := 5) sc_law_read_number.nd rfl (Or.inl rfl) pe_int)
      (pss_cons (ps_for PassesOwn.never rfl (pi_range1 rfl T.z_range (pa_cons (pv 2) pa_nil)) (pg_name (i := 6) sc_law_read_number.nd rfl (Or.inl rfl))
        (pss_one (ps_set (i := 5) sc_law_read_number.nd rfl (Or.inl rfl) (pe_op op_mul (pv 5) pe_int))))
      (pss_cons (ps_set (i := 5) sc_law_read_number.nd rfl (Or.inl rfl) (pe_op op_sub (pv 5) pe_int))
      (pss_cons (ps_if (pt_cmpR op_eq (pv 1) (pe_callB call_len rfl T.z_len boot_len (pa_cons (pv 0) pa_nil)) (nomark _)) (pss_one (ps_ret (pe_tup (pa_cons pe_str (pa_cons (pv 1) pa_nil))))) pss_nil)
      (pss_cons (ps_set (i := 7) sc_law_read_number.nd rfl (Or.inl rfl) (pe_op op_mod (pe_ix ix_list (pv 0) (pv 1) (fun _ _ => rfl)) (pe_op op_add (pv 5) pe_int)))
      (pss_cons (ps_if (pt_cmpR op_lt (pv 7) (pv 5) (nomark _)) (pss_one (ps_ret (pe_ifExp (pt_chain op_le op_le (pv 3) (pv 7) (pv 4)) (pe_tup (pa_cons pe_str (pa_cons (pv 7) (pa_cons (pe_op op_add (pv 1) pe_int) pa_nil)))) (pe_tup (pa_cons pe_str (pa_cons (pv 1) pa_nil)))))) pss_nil)
      (pss_cons (ps_if (pt_cmpR op_gt (pv 5) (pv 4) (nomark _)) (pss_one (ps_ret (pe_tup (pa_cons pe_str (pa_cons (pv 1) pa_nil))))) pss_nil)
      (pss_cons (ps_par3 (i := 8) (j := 9) (l := 10) rfl sc_law_read_number.nd rfl rfl rfl (by decide) (by decide) (by decide) rfl rfl rfl (pa_cons (pv 5) (pa_cons pe_int (pa_cons (pe_op op_add (pv 1) pe_int) pa_nil))) (by rfl))
      (pss_one (ps_while PassesOwn.never (pt_val pe_bl)
        (pss_cons (ps_if (pt_cmpR op_eq (pv 10) (pe_callB call_len rfl T.z_len boot_len (pa_cons (pv 0) pa_nil)) (nomark _)) (pss_one (ps_ret (pe_tup (pa_cons pe_str (pa_cons (pv 10) pa_nil))))) pss_nil)
      (pss_cons (ps_set (i := 11) sc_law_read_number.nd rfl (Or.inl rfl) (pe_op op_mod (pe_ix ix_list (pv 0) (pv 10) (fun _ _ => rfl)) pe_int))
      (pss_one (ps_if (pt_cmpR op_gt (pe_ix ix_list (pv 0) (pv 10) (fun _ _ => rfl)) pe_int (nomark _)) (pss_cons (ps_if (pt_cmpR op_gt (pe_op op_add (pe_op op_add (pv 8) (pe_op op_mul (pv 11) (pv 9))) (pe_op op_mul pe_int (pv 9))) (pv 4) (nomark _)) (pss_one (ps_ret (pe_tup (pa_cons pe_str (pa_cons (pv 10) pa_nil))))) pss_nil)
      (pss_one (ps_par3 (i := 8) (j := 9) (l := 10) rfl sc_law_read_number.nd rfl rfl rfl (by decide) (by decide) (by decide) rfl rfl rfl (pa_cons (pe_op op_add (pv 8) (pe_op op_mul (pv 11) (pv 9))) (pa_cons (pe_op op_mul (pv 9) pe_int) (pa_cons (pe_op op_add (pv 10) pe_int) pa_nil))) (by rfl)))) (pss_one (ps_if (PW.pt (pw_or (PW.pt (pw_and (pt_cmpR op_gt (pv 9) pe_int (nomark _)) (pw_and1 (pt_cmpR op_eq (pv 11) pe_int (nomark _))))) (pw_or1 (pt_cmpR op_gt (pe_op op_add (pv 8) (pe_op op_mul (pv 11) (pv 9))) (pv 4) (nomark _))))) (pss_one (ps_ret (pe_tup (pa_cons pe_str (pa_cons (pv 10) pa_nil))))) (pss_one (ps_ret (pe_tup (pa_cons pe_str (pa_cons (pe_op op_add (pv 8) (pe_op op_mul (pv 11) (pv 9))) (pa_cons (pe_op op_add (pv 10) pe_int) pa_nil)))))))))))))))))))))), ?_⟩
    have hp := pow_pos2 b
    have hp8 := pow_le8 hb8
    have eb := bits_cast b
    refine ⟨_, rfl, _, rfl, by omega, by omega, ?_⟩
    refine for_range (lo := 0) (n := ((b : Nat) : Int).toNat) (fun i σ H' => ∃ z : Option V, σ = [some (.ref o), some (.int (k : Nat)), some (.int (b : Nat)), some (.int least), some (.int most), some (.int (2 ^ i)), z, none, none, none, none, none] ∧ H = H') ⟨none, rfl, rfl⟩ ?_ ?_
    · rintro i σ H' hi ⟨z, rfl, rfl⟩
      refine ⟨_, rfl, _, _, rfl, rfl, .inr ⟨by decide, by decide⟩, ?_⟩
      exact ⟨_, by rw [Int.pow_succ]; rfl, rfl⟩
    rintro σ H' ⟨z, rfl, rfl⟩
    rw [Int.toNat_natCast]
    refine ⟨_, rfl, _, _, rfl, rfl, ?_⟩
    have hkl := ho.le
    have hlen := ho.len
    refine ⟨_, rfl, _, rfl, _, _, rfl, .inl ⟨_, ho.sq, rfl⟩, rfl, _, rfl, ?_⟩
    rw [List.length_map]
    cases hz : os[k]? with
    | none =>
      have hke : k = os.length := by have := List.getElem?_eq_none_iff.mp hz; omega
      refine ifT (decide_eq_true (by rw [hke])) ?_
      refine ⟨_, rfl, by show 2 ≤ sizeLine; decide, fun t ht => q t _ (Same.new ht) ?_⟩
      unfold takeNum
      rw [hz]
      exact upd_same
    | some f0 =>
      have hkl2 := (List.getElem?_eq_some_iff.mp hz).1
      refine ifF (decide_eq_false fun e => by have := V.int.inj e; omega) ?_
      obtain ⟨m1, m2⟩ := hmk f0 hz
      obtain ⟨f, rfl⟩ : ∃ f : Nat, f0 = ((m + f : Nat) : Int) := ⟨(f0 - (m : Nat)).toNat, by omega⟩
      have hf : f ≤ 2 ^ b - 1 := by omega
      refine ⟨_, rfl, _, rfl, o, _, _, _, rfl, rfl, ho.sq, atI_nat (by rw [List.getElem?_map, hz]; rfl), ?_⟩
      refine ⟨_, rfl, _, _, rfl, rfl, _, _, rfl, rfl, by show (0 : Int) < 2 ^ b - 1 + 1; omega, ?_⟩
      dsimp only
      rw [show ((2 : Int) ^ b - 1 + 1) = 2 ^ b by omega, first_mod hm hf]
      have eN : ∀ {R}, takeNum os b m least most k = R → ((least ≤ (f : Nat) ∧ ((f : Nat) : Int) ≤ min ((2 ^ b - 1 : Nat) : Int) most) → (if ((f : Nat) : Int) < ((2 ^ b - 1 : Nat) : Int) then Except.ok (((f : Nat) : Int), k + 1) else (takeRest (most - ((2 ^ b - 1 : Nat) : Int)) (os.drop (k + 1)) (k + 1) 0 1).map fun z => (((2 ^ b - 1 : Nat) : Int) + z.1, z.2)) = R) ∧ (¬ (least ≤ (f : Nat) ∧ ((f : Nat) : Int) ≤ min ((2 ^ b - 1 : Nat) : Int) most) → R = .error k) := by
        intro R e
        unfold takeNum at e
        rw [hz] at e
        dsimp only at e
        rw [show (((m + f : Nat) : Int) - (m : Nat)) = ((f : Nat) : Int) by omega] at e
        exact ⟨fun c => by rw [if_pos c] at e; exact e, fun c => by rw [if_neg c] at e; exact e.symm⟩
      generalize hR : takeNum os b m least most k = R at q
      obtain ⟨e1, e2⟩ := eN hR
      refine ⟨_, rfl, _, rfl, _, _, rfl, rfl, _, rfl, ifb (fun hlt => ?_) (fun hge => ?_)⟩
      · have hlt' : ((f : Nat) : Int) < ((2 ^ b - 1 : Nat) : Int) := by have : ((f : Nat) : Int) < 2 ^ b - 1 := of_decide_eq_true hlt; omega
        refine ⟨_, rfl, _, rfl, _, _, rfl, rfl, _, rfl, ifb (fun h1 => ?_) (fun h1 => ?_)⟩
        · have h1 : least ≤ (f : Nat) := of_decide_eq_true h1
          refine ⟨_, rfl, _, _, rfl, rfl, _, rfl, ifb (fun h2 => ?_) (fun h2 => ?_)⟩
          · have h2 : ((f : Nat) : Int) ≤ most := of_decide_eq_true h2
            have e1 := e1 ⟨h1, by omega⟩
            rw [if_pos hlt'] at e1
            refine ⟨_, rfl, _, rfl, _, _, rfl, rfl, by show 3 ≤ sizeLine; decide, fun t ht => q t _ (Same.new ht) ?_⟩
            rw [← e1]
            exact upd_same
          · have h2 : ¬ ((f : Nat) : Int) ≤ most := of_decide_eq_false h2
            rw [e2 (by omega)] at q
            exact ⟨_, rfl, by show 2 ≤ sizeLine; decide, fun t ht => q t _ (Same.new ht) upd_same⟩
        · have h1 : ¬ least ≤ (f : Nat) := of_decide_eq_false h1
          rw [e2 (fun c => h1 c.1)] at q
          exact ⟨_, rfl, _, rfl, by show 2 ≤ sizeLine; decide, fun t ht => q t _ (Same.new ht) upd_same⟩
      · have hge' : ¬ ((f : Nat) : Int) < ((2 ^ b - 1 : Nat) : Int) := by have : ¬ ((f : Nat) : Int) < 2 ^ b - 1 := of_decide_eq_false hge; omega
        have hff : ((f : Nat) : Int) = ((2 ^ b - 1 : Nat) : Int) := by omega
        refine ⟨_, rfl, _, rfl, _, _, rfl, rfl, _, rfl, ifb (fun hc => ?_) (fun hc => ?_)⟩
        · have hc : most < 2 ^ b - 1 := of_decide_eq_true hc
          rw [e2 (by omega)] at q
          exact ⟨_, rfl, by show 2 ≤ sizeLine; decide, fun t ht => q t _ (Same.new ht) upd_same⟩
        have hc : ¬ most < 2 ^ b - 1 := of_decide_eq_false hc
        have e1 := e1 ⟨by omega, by omega⟩
        rw [if_neg hge'] at e1
        refine ⟨_, rfl, _, rfl, _, _, rfl, rfl, ?_⟩
        refine ⟨_, _, _, rfl, ?_⟩
        -- the longer number
        refine ⟨fun n σ H' => ∃ (j : Nat) (r wt : Int) (v11 : Option V), σ = [some (.ref o), some (.int (k : Nat)), some (.int (b : Nat)), some (.int least), some (.int most), some (.int (2 ^ b - 1)), z, some (.int ((f : Nat) : Int)), some (.int ((2 ^ b - 1 : Nat) + r)), some (.int wt), some (.int (j : Nat)), v11] ∧ H' = H ∧ n = os.length - j ∧ j ≤ os.length ∧ 0 ≤ r ∧ 1 ≤ wt ∧ wt ≤ 9999 ∧ r ≤ 9999 ∧ ((takeRest (most - ((2 ^ b - 1 : Nat) : Int)) (os.drop j) j r wt).map fun z => (((2 ^ b - 1 : Nat) : Int) + z.1, z.2)) = R, ⟨os.length - (k + 1), k + 1, 0, 1, none, ?_, rfl, rfl, by omega, by decide, by decide, by decide, by decide, e1⟩, ?_⟩
        · rw [Int.add_zero, eb]; rfl
        rintro n σ H' ⟨j, r, wt, v11, rfl, rfl, rfl, hj, hr0, hw1, hw9, hr9, hres⟩
        refine ⟨_, rfl, ifT rfl ?_⟩
        cases hzj : os[j]? with
        | none =>
          have hje : j = os.length := by have := List.getElem?_eq_none_iff.mp hzj; omega
          refine ⟨fun _ _ => False, fun _ _ h => h.elim, ?_⟩
          refine ⟨_, rfl, _, rfl, _, _, rfl, .inl ⟨_, ho.sq, rfl⟩, rfl, _, rfl, ifT (decide_eq_true (by rw [List.length_map, hje])) ?_⟩
          refine ⟨_, rfl, by show 2 ≤ sizeLine; decide, fun t ht => q t _ (Same.new ht) ?_⟩
          rw [List.drop_eq_nil_of_le (by omega), takeRest] at hres
          rw [← hres]
          exact upd_same
        | some y =>
          have hjl := (List.getElem?_eq_some_iff.mp hzj).1
          have hy := ho.lt y (List.mem_of_getElem? hzj)
          have hat : decide (V.int ((j : Nat) : Int) = V.int (((os.map V.int).length : Nat) : Int)) = false := decide_eq_false fun e => by
            have := V.int.inj e
            rw [List.length_map] at this
            omega
          have gy : atI (os.map V.int) ((j : Nat) : Int) = some (.int y) := atI_nat (by rw [List.getElem?_map, hzj]; rfl)
          rw [drop_cons hzj, takeRest] at hres
          by_cases hy1 : 128 ≤ y
          · rw [if_pos hy1] at hres
            have hl : y % 128 = y - 128 := by omega
            have hlw : 0 ≤ (y - 128) * wt := Int.mul_nonneg (by omega) (by omega)
            by_cases hacc : r + (y - 128) * wt + wt * 128 ≤ most - ((2 ^ b - 1 : Nat) : Int)
            · rw [if_pos hacc] at hres
              refine ⟨fun σ' H'' => ∃ (j' : Nat) (r wt : Int) (v11 : Option V), σ' = [some (.ref o), some (.int (k : Nat)), some (.int (b : Nat)), some (.int least), some (.int most), some (.int (2 ^ b - 1)), z, some (.int ((f : Nat) : Int)), some (.int ((2 ^ b - 1 : Nat) + r)), some (.int wt), some (.int (j' : Nat)), v11] ∧ H'' = H' ∧ j' = j + 1 ∧ 0 ≤ r ∧ 1 ≤ wt ∧ wt ≤ 9999 ∧ r ≤ 9999 ∧ ((takeRest (most - ((2 ^ b - 1 : Nat) : Int)) (os.drop j') j' r wt).map fun z => (((2 ^ b - 1 : Nat) : Int) + z.1, z.2)) = R, fun σ' H'' ⟨j', r, wt, v11, h1, h2, h3, h4⟩ => ⟨os.length - j', by omega, j', r, wt, v11, h1, h2, rfl, by omega, h4⟩, ?_⟩
              refine ⟨_, rfl, _, rfl, _, _, rfl, .inl ⟨_, ho.sq, rfl⟩, rfl, _, rfl, ifF hat ?_⟩
              refine ⟨_, rfl, _, rfl, o, _, _, _, rfl, rfl, ho.sq, gy, _, _, rfl, rfl, by show (0 : Int) < 128; decide, ?_⟩
              dsimp only
              rw [hl]
              refine ⟨_, rfl, _, rfl, o, _, _, _, rfl, rfl, ho.sq, gy, _, _, rfl, rfl, _, rfl, ifT (decide_eq_true (by omega)) ?_⟩
              refine ⟨_, rfl, _, rfl, _, rfl, _, _, rfl, rfl, .inl ⟨by omega, by omega⟩, _, _, rfl, rfl, _, rfl, _, _, rfl, rfl, .inl ⟨by omega, by omega⟩, _, _, rfl, rfl, _, rfl, _, _, rfl, rfl, _, rfl, ifF (decide_eq_false (by omega)) ?_⟩
              refine ⟨_, rfl, _, rfl, _, rfl, _, _, rfl, rfl, .inl ⟨by omega, by omega⟩, _, _, rfl, rfl, _, rfl, _, _, rfl, rfl, .inl ⟨by omega, by omega⟩, _, rfl, _, _, rfl, rfl, ?_⟩
              refine ⟨_, _, _, rfl, j + 1, r + (y - 128) * wt, wt * 128, some (.int (y - 128)), ?_, rfl, rfl, by omega, by omega, by omega, by omega, hres⟩
              rw [← Int.add_assoc]
              rfl
            · rw [if_neg hacc] at hres
              refine ⟨fun _ _ => False, fun _ _ h => h.elim, ?_⟩
              refine ⟨_, rfl, _, rfl, _, _, rfl, .inl ⟨_, ho.sq, rfl⟩, rfl, _, rfl, ifF hat ?_⟩
              refine ⟨_, rfl, _, rfl, o, _, _, _, rfl, rfl, ho.sq, gy, _, _, rfl, rfl, by show (0 : Int) < 128; decide, ?_⟩
              dsimp only
              rw [hl]
              refine ⟨_, rfl, _, rfl, o, _, _, _, rfl, rfl, ho.sq, gy, _, _, rfl, rfl, _, rfl, ifT (decide_eq_true (by omega)) ?_⟩
              refine ⟨_, rfl, _, rfl, _, rfl, _, _, rfl, rfl, .inl ⟨by omega, by omega⟩, _, _, rfl, rfl, _, rfl, _, _, rfl, rfl, .inl ⟨by omega, by omega⟩, _, _, rfl, rfl, _, rfl, _, _, rfl, rfl, _, rfl, ifT (decide_eq_true (by omega)) ?_⟩
              refine ⟨_, rfl, by show 2 ≤ sizeLine; decide, fun t ht => q t _ (Same.new ht) ?_⟩
              rw [← hres]
              exact upd_same
          · rw [if_neg hy1] at hres
            have hl : y % 128 = y := by omega
            have hyw : 0 ≤ y * wt := Int.mul_nonneg (by omega) (by omega)
            refine ⟨fun _ _ => False, fun _ _ h => h.elim, ?_⟩
            refine ⟨_, rfl, _, rfl, _, _, rfl, .inl ⟨_, ho.sq, rfl⟩, rfl, _, rfl, ifF hat ?_⟩
            refine ⟨_, rfl, _, rfl, o, _, _, _, rfl, rfl, ho.sq, gy, _, _, rfl, rfl, by show (0 : Int) < 128; decide, ?_⟩
            dsimp only
            rw [hl]
            refine ⟨_, rfl, _, rfl, o, _, _, _, rfl, rfl, ho.sq, gy, _, _, rfl, rfl, _, rfl, ifF (decide_eq_false (by omega)) ?_⟩
            have bad : R = .error j → ∀ t, H' t = none → Q (.ref t) (upd H' t (.tup [.str "bad", .int (j : Nat)])) := fun e t ht => by
              rw [e] at q
              exact q t _ (Same.new ht) upd_same
            have good : R = .ok (((2 ^ b - 1 : Nat) : Int) + (r + y * wt), j + 1) → ∀ t, H' t = none → Q (.ref t) (upd H' t (.tup [.str "ok", .int (((2 ^ b - 1 : Nat) : Int) + r + y * wt), .int ((j : Nat) + 1)])) := fun e t ht => by
              rw [e] at q
              refine q t _ (Same.new ht) ?_
              rw [Int.add_assoc]
              exact upd_same
            by_cases hacc : r + y * wt ≤ most - ((2 ^ b - 1 : Nat) : Int) ∧ (0 < y ∨ wt = 1)
            · rw [if_pos hacc] at hres
              have good := good hres.symm
              refine ⟨_, rfl, _, _, rfl, rfl, _, rfl, ifb (fun hw2 => ?_) (fun hw2 => ?_)⟩
              · have hw2 : 1 < wt := of_decide_eq_true hw2
                refine ⟨_, rfl, rfl, _, rfl, ifF (decide_eq_false fun e => ?_) ?_⟩
                · have := V.int.inj e; omega
                refine ⟨_, rfl, _, rfl, _, rfl, _, _, rfl, rfl, .inl ⟨by omega, by omega⟩, _, _, rfl, rfl, _, rfl, _, _, rfl, rfl, _, rfl, ifF (decide_eq_false (by omega)) ?_⟩
                exact ⟨_, rfl, _, rfl, _, rfl, _, _, rfl, rfl, .inl ⟨by omega, by omega⟩, _, _, rfl, rfl, _, rfl, _, _, rfl, rfl, by show 3 ≤ sizeLine; decide, good⟩
              · refine ifF rfl ?_
                refine ⟨_, rfl, _, rfl, _, rfl, _, _, rfl, rfl, .inl ⟨by omega, by omega⟩, _, _, rfl, rfl, _, rfl, _, _, rfl, rfl, _, rfl, ifF (decide_eq_false (by omega)) ?_⟩
                exact ⟨_, rfl, _, rfl, _, rfl, _, _, rfl, rfl, .inl ⟨by omega, by omega⟩, _, _, rfl, rfl, _, rfl, _, _, rfl, rfl, by show 3 ≤ sizeLine; decide, good⟩
            · rw [if_neg hacc] at hres
              have bad := bad hres.symm
              refine ⟨_, rfl, _, _, rfl, rfl, _, rfl, ifb (fun hw2 => ?_) (fun hw2 => ?_)⟩
              · have hw2 : 1 < wt := of_decide_eq_true hw2
                by_cases hy0 : y = 0
                · subst hy0
                  exact ⟨_, rfl, rfl, _, rfl, ifT (decide_eq_true rfl) ⟨_, rfl, by show 2 ≤ sizeLine; decide, bad⟩⟩
                · refine ⟨_, rfl, rfl, _, rfl, ifF (decide_eq_false fun e => hy0 (V.int.inj e)) ?_⟩
                  refine ⟨_, rfl, _, rfl, _, rfl, _, _, rfl, rfl, .inl ⟨by omega, by omega⟩, _, _, rfl, rfl, _, rfl, _, _, rfl, rfl, _, rfl, ifT (decide_eq_true (by omega)) ?_⟩
                  exact ⟨_, rfl, by show 2 ≤ sizeLine; decide, bad⟩
              · have hw2 : ¬ 1 < wt := of_decide_eq_false hw2
                refine ifF rfl ?_
                refine ⟨_, rfl, _, rfl, _, rfl, _, _, rfl, rfl, .inl ⟨by omega, by omega⟩, _, _, rfl, rfl, _, rfl, _, _, rfl, rfl, _, rfl, ifT (decide_eq_true (by omega)) ?_⟩
                exact ⟨_, rfl, by show 2 ≤ sizeLine; decide, bad⟩

theorem ok_law_read_text (T : Txt K mg) : FnOk P w K mg base CX0 2 T.f_law_read_text T.d_law_read_text ["octets", "place", "prefix", "least", "most"] (sp_rd_text K) := by
  refine T.F_law_read_text.ok sc_law_read_text (fun vs H Q E h => ?_) (fun cdv A outer s H vs Q E hr h => ?_)
  · obtain ⟨o, os, k, b, m, least, most, rfl, _⟩ := h
    rfl
  · obtain ⟨o, os, k, b, m, least, most, rfl, ho, hb8, hm, hmk, hl0, hle, hm4, q⟩ := h
    have hud : (A.deeper (envOfC "_law_read_text" (defScope s_law_read_text) s.heap.objs.size T.f_law_read_text cdv)).units + 64 < cLine := by have := hr.un; omega
    refine ⟨_, (pss_cons (ps_set (i := 5) sc_law_read_text.nd rfl (Or.inl rfl) (pe_call (ok_law_read_number T) (hr.mono (by decide)) rfl T.g_law_read_number T.F_law_read_number.kp T.b_law_read_number .nil pass0 (pa_cons (pv 0) (pa_cons (pv 1) (pa_cons (pv 2) (pa_cons (pv 3) (pa_cons (pv 4) pa_nil)))))))
      (pss_cons (ps_if (pt_cmpR op_eq (pe_ix ix_tup (pv 5) pe_int (fun _ _ => rfl)) pe_str (nomark _)) (pss_one (ps_ret (pv 5))) pss_nil)
      (pss_cons (ps_asg (pe_tup (pa_cons pe_str (pa_cons (pe_ix ix_tup (pv 5) pe_int (fun _ _ => rfl)) pa_nil))) (pg_tup rfl (pgs_cons (pg_name (i := 6) sc_law_read_text.nd rfl (Or.inl rfl)) (pgs_cons (pg_name (i := 7) sc_law_read_text.nd rfl (Or.inr rfl)) pgs_nil))))
      (pss_cons (ps_for PassesOwn.never rfl (pi_range1 rfl T.z_range (pa_cons (pe_ix ix_tup (pv 5) pe_int (fun _ _ => rfl)) pa_nil)) (pg_name (i := 8) sc_law_read_text.nd rfl (Or.inl rfl))
        (pss_cons (ps_if (pt_cmpR op_eq (pv 7) (pe_callB call_len rfl T.z_len boot_len (pa_cons (pv 0) pa_nil)) (nomark _)) (pss_one (ps_ret (pe_tup (pa_cons pe_str (pa_cons (pv 7) pa_nil))))) pss_nil)
      (pss_cons (ps_setLc (i := 9) (own := [("sign", 10)]) (g := (gName 10))  rfl sc_law_read_text.nd rfl rfl (sw_true rfl rfl rfl (by decide +kernel)) (pi_str (pe_call0 (ok_law_signs T) (hr.mono (by decide)) rfl T.g_law_signs T.F_law_signs.kp T.b_law_signs .nil pass0)) (blkOk_by (own := [("sign", 10)]) (N := ["octets", "place", "prefix", "least", "most", "told", "text", "at", "again", "found", "sign"]) (sc := defScope s_law_read_text) (by decide +kernel)) (fun _ _ _ _ _ => (pg_name (i := 10) sc_law_read_text.nd rfl (Or.inl rfl))) (fun _ _ _ _ _ => pts_one (pt_cmpR op_eq (pe_call (ok_law_code T) (hr.mono (by decide)) rfl T.g_law_code T.F_law_code.kp T.b_law_code .nil pass0 (pa_cons (pv 10) pa_nil)) (pe_ix (ixK (K := K) (r := rIxL) ix_list) (pv 0) (pv 7) (fun _ _ => rfl)) (nomark _))) (fun _ _ _ _ _ => (pv 10)))
      (pss_cons (ps_if (pt_cmpR (op_eqD hud) (pv 9) (pe_lst pa_nil) (nomark _)) (pss_one (ps_ret (pe_tup (pa_cons pe_str (pa_cons (pv 7) pa_nil))))) pss_nil)
      (pss_one (ps_asg (pe_tup (pa_cons (pe_op op_add_str (pv 6) (pe_ix ix_list (pv 9) pe_int (fun _ _ => rfl))) (pa_cons (pe_op op_add (pv 7) pe_int) pa_nil))) (pg_tup rfl (pgs_cons (pg_name (i := 6) sc_law_read_text.nd rfl (Or.inl rfl)) (pgs_cons (pg_name (i := 7) sc_law_read_text.nd rfl (Or.inr rfl)) pgs_nil)))))))))
      (pss_one (ps_ret (pe_tup (pa_cons pe_str (pa_cons (pv 6) (pa_cons (pv 7) pa_nil)))))))))), ?_⟩
    have z3 : 3 ≤ sizeLine := by decide
    have hlen := ho.len
    refine ⟨_, rfl, _, rfl, _, rfl, _, rfl, _, rfl, o, os, k, b, m, least, most, rfl, ho, hb8, hm, hmk, hle, by omega, fun t H1 s1 g1 => ?_⟩
    generalize hR : takeStr os b m least most k = R at q
    unfold takeStr at hR
    cases hn : takeNum os b m least most k with
    | error e =>
      rw [hn] at g1 hR
      have g1 : H1 t = some (.tup [.str "bad", .int (e : Nat)]) := g1
      subst hR
      refine ⟨_, rfl, _, _, _, _, rfl, rfl, SqT.of g1, rfl, rfl, _, rfl, ifT (by decide) ?_⟩
      exact ⟨_, rfl, q t H1 s1 g1⟩
    | ok y =>
      obtain ⟨n, k1⟩ := y
      rw [hn] at g1 hR
      dsimp only at hR
      have hnb := takeNum_bound os b m least most k (fun z hz => (ho.lt z hz).1) n k1 hn
      obtain ⟨_, hk1⟩ := takeNum_le hn
      obtain ⟨nn, rfl⟩ : ∃ nn : Nat, n = (nn : Int) := ⟨n.toNat, by omega⟩
      rw [Int.toNat_natCast] at hR
      have g1 : H1 t = some (.tup [.str "ok", .int (nn : Nat), .int (k1 : Nat)]) := g1
      refine ⟨_, rfl, _, _, _, _, rfl, rfl, SqT.of g1, rfl, rfl, _, rfl, ifF (by decide) ?_⟩
      refine ⟨_, rfl, _, _, _, _, rfl, rfl, SqT.of g1, rfl, by show 2 ≤ sizeLine; decide, fun t2 ht2 => ⟨t2, _, rfl, SqT.of upd_same, rfl, _, _, rfl, _, _, rfl, rfl, ?_⟩⟩
      have s2 := Same.new (o := .tup [.str "", .int (k1 : Nat)]) ht2
      generalize upd H1 t2 (.tup [.str "", .int (k1 : Nat)]) = H2 at s2 ⊢
      have s12 := s1.trans s2
      have g2 := s2 _ _ g1
      refine ⟨_, rfl, _, _, _, _, rfl, rfl, SqT.of g2, rfl, _, rfl, by omega, by omega, ?_⟩
      rw [Int.toNat_natCast]
      refine for_range (lo := 0) (n := nn) (fun i σ H' => ∃ (v8 v9 : Option V) (cs : List Nat), σ = [some (.ref o), some (.int (k : Nat)), some (.int (b : Nat)), some (.int least), some (.int most), some (.ref t), some (.str ⟨cs.toArray⟩), some (.int ((k1 + i : Nat) : Int)), v8, v9, none] ∧ Same H2 H' ∧ cs.length = i ∧ k1 + i ≤ os.length ∧ ((takeChars (nn - i) (os.drop (k1 + i)) (k1 + i)).map fun z => ((⟨(cs ++ z.1).toArray⟩ : Str), z.2)) = R) ⟨none, none, [], rfl, Same.refl _, rfl, hk1, hR⟩ ?_ ?_
      · rintro i σ H3 hi ⟨v8, v9, cs, rfl, s3, hcs, hki, hres⟩
        have s13 := s12.trans s3
        have hs3 := s13.seq ho.sq
        refine ⟨_, rfl, _, rfl, _, _, rfl, .inl ⟨_, hs3, rfl⟩, rfl, _, rfl, ?_⟩
        rw [List.length_map]
        obtain ⟨d, hd⟩ : ∃ d, nn - i = d + 1 := ⟨nn - i - 1, by omega⟩
        rw [hd] at hres
        cases hz : os[k1 + i]? with
        | none =>
          have hke : k1 + i = os.length := by have := List.getElem?_eq_none_iff.mp hz; omega
          refine ifT (decide_eq_true (by rw [hke])) ?_
          rw [List.drop_eq_nil_of_le (by omega), takeChars] at hres
          subst hres
          exact ⟨_, rfl, by show 2 ≤ sizeLine; decide, fun t3 ht3 => q t3 _ (s13.trans (Same.new ht3)) upd_same⟩
        | some z =>
          have hzl := (List.getElem?_eq_some_iff.mp hz).1
          have hzb := ho.lt z (List.mem_of_getElem? hz)
          refine ifF (decide_eq_false fun e => by have := V.int.inj e; omega) ?_
          have hat : (os.map V.int)[k1 + i]? = some (V.int z) := by rw [List.getElem?_map, hz]; rfl
          rw [drop_cons hz, takeChars] at hres
          refine ⟨rfl, signs, rfl, fun C hC => ?_⟩
          refine lc_relF (R := fun v a H => v = V.str ⟨#[a]⟩) (fun a => decide (codeOf a = z)) (fun _ _ _ _ _ z => z) charCodes walk_str (by show signs.cps.toList.length = _; rw [signs_cps]) (by decide) hC (fun _ _ => True.intro) ?_ ?_
          · rintro j y a H' H'' Q' Z ha s4 _ ⟨rfl, a', ha', rfl⟩ qy qn
            have haa : a' = a := by
              have := cps_at ha'
              rw [signs_cps, ha] at this
              exact (Option.some.inj this).symm
            subst haa
            refine ⟨rfl, _, rfl, a', rfl, fun H5 s5 => ⟨_, rfl, _, rfl, o, _, _, _, rfl, rfl, s5.seq (s4.seq hs3), atI_nat hat, rfl, _, rfl, ifb (fun h => ?_) (fun h => ?_)⟩⟩
            · exact ⟨_, rfl, qy (decide_eq_true (V.int.inj (of_decide_eq_true h))) _ _ s5 rfl⟩
            · exact qn (decide_eq_false fun z => (of_decide_eq_false h) (by rw [z])) _ s5
          intro ys H4 s4 hC4 hys
          rw [filter_of hzb.1 hzb.2] at hys
          by_cases hcc : isChar z.toNat = true
          · rw [if_pos hcc] at hys hres
            generalize hc : z.toNat = c at hys hcc hres
            cases hys with
            | cons hy hn =>
              cases hn
              subst hy
              refine ⟨_, rfl, by show 0 ≤ sizeLine; decide, fun t0 ht0 => ?_⟩
              have s5 := Same.new (o := .lst []) ht0
              have hsh : SeqAt.shaped (.list [.str ⟨#[c]⟩]) = true := by
                have h1 : txt (.str ⟨#[c]⟩) 0 40 = true := txt_of (by show (0 : Int) ≤ ((1 : Nat) : Int); decide) (by show ((1 : Nat) : Int) ≤ 40; decide) (by show [c].all isChar = true; rw [List.all_cons, hcc]; rfl)
                show ((PyData.list [.str ⟨#[c]⟩]).canLay0 && decide ((PyData.list [.str ⟨#[c]⟩]).depth ≤ 64)) = true
                rw [show (PyData.list [.str ⟨#[c]⟩]).canLay0 = true by simp [PyData.canLay0, PyData.canLayAll0, strOk_txt h1]]
                rfl
              have hev : PyData.eqv (.list [.str ⟨#[c]⟩]) (.list []) = false := by simp [PyData.eqv, PyData.eqvAll]
              refine ⟨.list [.str ⟨#[c]⟩], .list [], .lst (SqL.of (s5 _ _ hC4)) (.cons (.str _) .nil), .lst (SqL.of upd_same) .nil, hsh, rfl, _, rfl, ifF hev ?_⟩
              refine ⟨_, rfl, _, rfl, _, _, _, _, rfl, rfl, SqL.of (s5 _ _ hC4), rfl, ?_⟩
              have hcat : ((⟨cs.toArray⟩ : Str) ++ (⟨#[c]⟩ : Str)) = ⟨(cs ++ [c]).toArray⟩ := by
                apply TL.ext_tl
                show (cs.toArray ++ #[c]).toList = (cs ++ [c])
                simp
              have hl1 : (⟨cs.toArray⟩ : Str).length + (⟨#[c]⟩ : Str).length ≤ sizeLine := by
                show cs.toArray.size + 1 ≤ _
                rw [List.size_toArray, sizeLine_eq]
                omega
              refine ⟨_, _, rfl, rfl, hl1, ?_⟩
              rw [hcat]
              refine ⟨_, rfl, _, _, rfl, rfl, by show 2 ≤ sizeLine; decide, fun t3 ht3 => ⟨t3, _, rfl, SqT.of upd_same, rfl, _, _, rfl, _, _, rfl, rfl, ?_⟩⟩
              refine ⟨_, _, cs ++ [c], rfl, ((s3.trans s4).trans s5).trans (Same.new ht3), by rw [List.length_append, hcs]; rfl, by omega, ?_⟩
              rw [← hres, show nn - (i + 1) = d by omega]
              cases takeChars d (os.drop (k1 + i + 1)) (k1 + i + 1) with
              | error e => rfl
              | ok y =>
                show Except.ok ((⟨((cs ++ [c]) ++ y.1).toArray⟩ : Str), y.2) = Except.ok ((⟨(cs ++ (c :: y.1)).toArray⟩ : Str), y.2)
                rw [List.append_assoc]
                rfl
          · rw [if_neg hcc] at hys hres
            cases hys
            refine ⟨_, rfl, by show 0 ≤ sizeLine; decide, fun t0 ht0 => ?_⟩
            have s5 := Same.new (o := .lst []) ht0
            refine ⟨.list [], .list [], .lst (SqL.of (s5 _ _ hC4)) .nil, .lst (SqL.of upd_same) .nil, rfl, rfl, _, rfl, ifT rfl ?_⟩
            subst hres
            exact ⟨_, rfl, by show 2 ≤ sizeLine; decide, fun t3 ht3 => q t3 _ (((s13.trans s4).trans s5).trans (Same.new ht3)) upd_same⟩
      · rintro σ H3 ⟨v8, v9, cs, rfl, s3, hcs, hki, hres⟩
        rw [Nat.sub_self, takeChars] at hres
        subst hres
        refine ⟨_, rfl, _, rfl, z3, fun t4 ht4 => q t4 _ ((s12.trans s3).trans (Same.new ht4)) ?_⟩
        show upd H3 t4 _ t4 = some (.tup [.str "ok", .str ⟨(cs ++ []).toArray⟩, .int ((k1 + nn : Nat) : Int)])
        rw [List.append_nil]
        exact upd_same

theorem ok_law_read_single (T : Txt K mg) : FnOk P w K mg base CX0 2 T.f_law_read_single T.d_law_read_single ["octets", "place", "front", "head"] (sp_rd_single K) := by
  refine T.F_law_read_single.ok sc_law_read_single (fun vs H Q E h => ?_) (fun cdv A outer s H vs Q E hr h => ?_)
  · obtain ⟨o, f, os, k, b, m, least, most, wd, rfl, _⟩ := h
    rfl
  · obtain ⟨o, f, os, k, b, m, least, most, wd, rfl, hf, ho, hb, hm, hmk, hle, hm9, hw, q⟩ := h
    refine ⟨_, (pss_cons (ps_asg (pv 2) (pg_tup rfl (pgs_cons (pg_name (i := 4) sc_law_read_single.nd rfl (Or.inl rfl)) (pgs_cons (pg_name (i := 5) sc_law_read_single.nd rfl (Or.inl rfl)) (pgs_cons (pg_name (i := 6) sc_law_read_single.nd rfl (Or.inl rfl)) (pgs_cons (pg_name (i := 7) sc_law_read_single.nd rfl (Or.inl rfl)) (pgs_cons (pg_name (i := 8) sc_law_read_single.nd rfl (Or.inl rfl)) pgs_nil)))))))
      (pss_cons (ps_set (i := 9) sc_law_read_single.nd rfl (Or.inl rfl) (pe_call (ok_law_read_number T) (hr.mono (by decide)) rfl T.g_law_read_number T.F_law_read_number.kp T.b_law_read_number .nil pass0 (pa_cons (pv 0) (pa_cons (pv 1) (pa_cons (pv 6) (pa_cons (pv 7) (pa_cons (pv 8) pa_nil)))))))
      (pss_cons (ps_if (pt_cmpR op_eq (pe_ix ix_tup (pv 9) pe_int (fun _ _ => rfl)) pe_str (nomark _)) (pss_one (ps_ret (pv 9))) pss_nil)
      (pss_cons (ps_set (i := 10) sc_law_read_single.nd rfl (Or.inl rfl) (pe_ifExp (pt_cmpR op_isN (pv 3) pe_non (nomark _)) (pe_ix ix_tup (pv 9) pe_int (fun _ _ => rfl)) (pe_ifExp (pt_cmpR op_eq (pv 4) pe_str (nomark _)) (pe_op op_sub (pv 3) (pe_ix ix_tup (pv 9) pe_int (fun _ _ => rfl))) (pe_op op_add (pv 3) (pe_ix ix_tup (pv 9) pe_int (fun _ _ => rfl))))))
      (pss_one (ps_ret (pe_tup (pa_cons pe_str (pa_cons (pe_tup (pa_cons (pe_ifExp (pt_cmpR op_in_seq (pv 4) (pe_tup (pa_cons pe_str (pa_cons pe_str pa_nil))) rfl) pe_str (pv 4)) (pa_cons (pv 10) pa_nil))) (pa_cons (pe_ix ix_tup (pv 9) pe_int (fun _ _ => rfl)) pa_nil)))))))))), ?_⟩
    have z2 : 2 ≤ sizeLine := by decide
    have z3 : 3 ≤ sizeLine := by decide
    refine ⟨_, rfl, f, _, rfl, hf, rfl, ⟨_, _, rfl, ⟨_, _, rfl, ⟨_, _, rfl, ⟨_, _, rfl, ⟨_, _, rfl, rfl, ?_⟩⟩⟩⟩⟩⟩
    refine ⟨_, rfl, _, rfl, _, rfl, _, rfl, _, rfl, o, os, k, b, m, least, most, rfl, ho, hb, hm, hmk, hle, hm9, fun t H1 s1 g1 => ?_⟩
    generalize takeNum os b m least most k = R at g1 q
    cases R with
    | error e =>
      have g1 : H1 t = some (.tup [.str "bad", .int (e : Nat)]) := g1
      refine ⟨_, rfl, _, _, _, _, rfl, rfl, SqT.of g1, rfl, rfl, _, rfl, ifT (by decide) ?_⟩
      exact ⟨_, rfl, q t H1 s1 g1⟩
    | ok y =>
      obtain ⟨n, k1⟩ := y
      have g1 : H1 t = some (.tup [.str "ok", .int n, .int (k1 : Nat)]) := g1
      refine ⟨_, rfl, _, _, _, _, rfl, rfl, SqT.of g1, rfl, rfl, _, rfl, ifF (by decide) ?_⟩
      refine ⟨_, rfl, rfl, _, rfl, ifT (decide_eq_true rfl) ⟨_, rfl, _, _, _, _, rfl, rfl, SqT.of g1, rfl, ?_⟩⟩
      refine ⟨_, rfl, z2, fun m1 hm1 => ⟨_, _, rfl, .inr (SqT.of upd_same), rfl, rfl, _, rfl, ifF hw ?_⟩⟩
      have sA := Same.new (o := .tup [.str "before", .str "behind"]) hm1
      refine ⟨_, rfl, _, rfl, z2, fun m2 hm2 => ⟨_, rfl, _, _, _, _, rfl, rfl, (sA.trans (Same.new hm2)).tup (SqT.of g1), rfl, z3, fun m3 hm3 => ?_⟩⟩
      have sB := Same.new (o := .tup [.str wd, .int n]) hm2
      exact q m3 _ (((s1.trans sA).trans sB).trans (Same.new hm3)) ⟨m2, upd_same, SqT.of (Same.new hm3 _ _ upd_same)⟩
theorem ok_law_read_pair (T : Txt K mg) : FnOk P w K mg base CX0 3 T.f_law_read_pair T.d_law_read_pair ["octets", "place", "front", "head"] (sp_rd_pair K) := by
  refine T.F_law_read_pair.ok sc_law_read_pair (fun vs H Q E h => ?_) (fun cdv A outer s H vs Q E hr h => ?_)
  · obtain ⟨o, f, os, k, b, m, least, most, wd, isT, rfl, _⟩ := h
    rfl
  · obtain ⟨o, f, os, k, b, m, least, most, wd, isT, rfl, hf, ho, hb, hm, hmk, hl0, hle, hm9, hm4, hw, q⟩ := h
    have hud : (A.deeper (envOfC "_law_read_pair" (defScope s_law_read_pair) s.heap.objs.size T.f_law_read_pair cdv)).units + 64 < cLine := by have := hr.un; omega
    refine ⟨_, (pss_cons (ps_asg (pv 2) (pg_tup rfl (pgs_cons (pg_name (i := 4) sc_law_read_pair.nd rfl (Or.inl rfl)) (pgs_cons (pg_name (i := 5) sc_law_read_pair.nd rfl (Or.inl rfl)) (pgs_cons (pg_name (i := 6) sc_law_read_pair.nd rfl (Or.inl rfl)) (pgs_cons (pg_name (i := 7) sc_law_read_pair.nd rfl (Or.inl rfl)) (pgs_cons (pg_name (i := 8) sc_law_read_pair.nd rfl (Or.inl rfl)) pgs_nil)))))))
      (Evl.pss_cut (ps_if (pt_cmpR op_eq (pv 5) pe_str (nomark _)) (pss_one (ps_set (i := 9) sc_law_read_pair.nd rfl (Or.inl rfl) (pe_call (ok_law_read_text T) (hr.mono (by decide)) rfl T.g_law_read_text T.F_law_read_text.kp T.b_law_read_text .nil pass0 (pa_cons (pv 0) (pa_cons (pv 1) (pa_cons (pv 6) (pa_cons (pv 7) (pa_cons (pv 8) pa_nil)))))))) (pss_one (ps_set (i := 9) sc_law_read_pair.nd rfl (Or.inl rfl) (pe_call (ok_law_read_number T) (hr.mono (by decide)) rfl T.g_law_read_number T.F_law_read_number.kp T.b_law_read_number .nil pass0 (pa_cons (pv 0) (pa_cons (pv 1) (pa_cons (pv 6) (pa_cons (pv 7) (pa_cons (pv 8) pa_nil)))))))))
      (pss_cons (ps_if (pt_cmpR op_eq (pe_ix ix_tup (pv 9) pe_int (fun _ _ => rfl)) pe_str (nomark _)) (pss_one (ps_ret (pv 9))) pss_nil)
      (Evl.pss_cut (ps_if (PW.pt (pw_and (pt_cmpR (op_neL hud) (pe_slice sl_list (pv 0) (po_some (pe_ix ix_tup (pv 9) pe_int (fun _ _ => rfl))) (po_some (pe_op op_add (pe_ix ix_tup (pv 9) pe_int (fun _ _ => rfl)) pe_int))) (pe_lst pa_nil) (nomark _)) (pw_and1 (pt_cmpR op_gt (pe_ix ix_list (pv 0) (pe_ix ix_tup (pv 9) pe_int (fun _ _ => rfl)) (fun _ _ => rfl)) pe_int (nomark _))))) (pss_one (ps_ret (pe_tup (pa_cons pe_str (pa_cons (pe_ix ix_tup (pv 9) pe_int (fun _ _ => rfl)) pa_nil))))) pss_nil)
      (pss_cons (ps_set (i := 10) sc_law_read_pair.nd rfl (Or.inl rfl) (pe_call (ok_law_read_text T) (hr.mono (by decide)) rfl T.g_law_read_text T.F_law_read_text.kp T.b_law_read_text .nil pass0 (pa_cons (pv 0) (pa_cons (pe_ix ix_tup (pv 9) pe_int (fun _ _ => rfl)) (pa_cons pe_int (pa_cons pe_int (pa_cons pe_int pa_nil)))))))
      (pss_cons (ps_if (pt_cmpR op_eq (pe_ix ix_tup (pv 10) pe_int (fun _ _ => rfl)) pe_str (nomark _)) (pss_one (ps_ret (pv 10))) pss_nil)
      (pss_cons (ps_set (i := 11) sc_law_read_pair.nd rfl (Or.inl rfl) (pe_ifExp (pt_cmpR op_isN (pv 3) pe_non (nomark _)) (pe_ix ix_tup (pv 9) pe_int (fun _ _ => rfl)) (pe_ifExp (pt_cmpR op_eq (pv 4) pe_str (nomark _)) (pe_op op_sub (pv 3) (pe_ix ix_tup (pv 9) pe_int (fun _ _ => rfl))) (pe_op op_add (pv 3) (pe_ix ix_tup (pv 9) pe_int (fun _ _ => rfl))))))
      (pss_one (ps_ret (pe_tup (pa_cons pe_str (pa_cons (pe_tup (pa_cons (pe_ifExp (pt_cmpR op_in_seq (pv 4) (pe_tup (pa_cons pe_str (pa_cons pe_str pa_nil))) rfl) pe_str (pv 4)) (pa_cons (pv 11) (pa_cons (pe_ix ix_tup (pv 10) pe_int (fun _ _ => rfl)) pa_nil)))) (pa_cons (pe_ix ix_tup (pv 10) pe_int (fun _ _ => rfl)) pa_nil))))))))))))), ?_⟩
    have z2 : 2 ≤ sizeLine := by decide
    have z3 : 3 ≤ sizeLine := by decide
    refine ⟨_, rfl, f, _, rfl, hf, rfl, ⟨_, _, rfl, ⟨_, _, rfl, ⟨_, _, rfl, ⟨_, _, rfl, ⟨_, _, rfl, rfl, ?_⟩⟩⟩⟩⟩⟩
    refine ⟨fun σ' H' => ∃ t : Addr, σ' = [some (.ref o), some (.int (k : Nat)), some (.ref f), some .non, some (.str wd), some (.str (frKd isT)), some (.int (b : Nat)), some (.int least), some (.int most), some (.ref t), none, none] ∧ Same H H' ∧ TkT H' t (frRes isT os b m least most k), ?_, ?_⟩
    · cases isT with
      | true =>
        refine ⟨_, rfl, rfl, _, rfl, ifT (by show decide (V.str "text" = V.str "text") = true; decide) ?_⟩
        exact ⟨_, rfl, _, rfl, _, rfl, _, rfl, _, rfl, o, os, k, b, m, least, most, rfl, ho, hb, hm, hmk, hl0, hle, hm4 rfl, fun t H1 s1 g1 => ⟨t, rfl, s1, g1⟩⟩
      | false =>
        refine ⟨_, rfl, rfl, _, rfl, ifF (by show decide (V.str "number" = V.str "text") = false; decide) ?_⟩
        exact ⟨_, rfl, _, rfl, _, rfl, _, rfl, _, rfl, o, os, k, b, m, least, most, rfl, ho, hb, hm, hmk, hle, hm9, fun t H1 s1 g1 => ⟨t, rfl, s1, g1⟩⟩
    rintro σ H1 ⟨t, rfl, s1, g1⟩
    cases hR : frRes isT os b m least most k with
    | error e =>
      rw [hR] at g1 q
      have g1 : H1 t = some (.tup [.str "bad", .int (e : Nat)]) := g1
      refine ⟨_, rfl, _, _, _, _, rfl, rfl, SqT.of g1, rfl, rfl, _, rfl, ifT (by decide) ?_⟩
      exact ⟨_, rfl, q t H1 s1 g1⟩
    | ok y =>
      obtain ⟨v, k1⟩ := y
      have hk1 := fr_le hR
      rw [hR] at g1 q
      have g1 : H1 t = some (.tup [.str "ok", v, .int (k1 : Nat)]) := g1
      rw [pair_tl] at q
      refine ⟨_, rfl, _, _, _, _, rfl, rfl, SqT.of g1, rfl, rfl, _, rfl, ifF (by decide) ?_⟩
      have s1s := s1.seq ho.sq
      refine ⟨fun σ' H' => σ' = [some (.ref o), some (.int (k : Nat)), some (.ref f), some .non, some (.str wd), some (.str (frKd isT)), some (.int (b : Nat)), some (.int least), some (.int most), some (.ref t), none, none] ∧ Same H1 H' ∧ ∀ z, os[k1]? = some z → z ≤ 127, ?_, ?_⟩
      · refine ⟨_, rfl, _, rfl, _, _, _, _, rfl, rfl, SqT.of g1, rfl, _, rfl, _, rfl, _, _, _, _, rfl, rfl, SqT.of g1, rfl, _, _, rfl, rfl, _, rfl, o, _, rfl, s1s, fun p hp => ?_⟩
        rw [cut_one]
        have s2 := Same.new (o := .lst (oneV os[k1]?)) hp
        have g2 : upd H1 p (.lst (oneV os[k1]?)) p = some (.lst (oneV os[k1]?)) := upd_same
        generalize upd H1 p (.lst (oneV os[k1]?)) = H2 at s2 g2 ⊢
        refine ⟨by show 0 ≤ sizeLine; decide, fun t0 ht0 => ?_⟩
        have s3 := Same.new (o := .lst []) ht0
        have g3 : upd H2 t0 (.lst []) t0 = some (.lst []) := upd_same
        generalize upd H2 t0 (.lst []) = H3 at s3 g3 ⊢
        have s13 := s2.trans s3
        have g1' := s13 _ _ g1
        have s03 := s1.trans s13
        cases hz : os[k1]? with
        | none =>
          refine ⟨_, _, _, rfl, rfl, SqL.of (s3 _ _ g2), SqL.of g3, _, rfl, ifF (by rw [hz]; rfl) ?_⟩
          exact ⟨rfl, s13, fun z e => by cases e⟩
        | some z =>
          refine ⟨_, _, _, rfl, rfl, SqL.of (s3 _ _ g2), SqL.of g3, _, rfl, ifT (by rw [hz]; rfl) ?_⟩
          refine ⟨_, rfl, _, rfl, _, _, _, _, rfl, rfl, SqT.of g1', rfl, o, _, _, _, rfl, rfl, s13.seq s1s, atI_nat (by rw [List.getElem?_map, hz]; rfl), _, _, rfl, rfl, _, rfl, ifb (fun hhi => ?_) (fun hlo => ?_)⟩
          · have hhi : 127 < z := of_decide_eq_true hhi
            rw [str_high hz hhi] at q
            exact ⟨_, rfl, _, _, _, _, rfl, rfl, SqT.of g1', rfl, z2, fun t3 ht3 => q t3 _ (s03.trans (Same.new ht3)) upd_same⟩
          · have hlo : ¬ 127 < z := of_decide_eq_false hlo
            exact ⟨rfl, s13, fun y e => by cases e; omega⟩
      rintro σ H3 ⟨rfl, s13, hz⟩
      have g1' := s13 _ _ g1
      have s03 := s1.trans s13
      have ho3 := (ho.at_ hk1).same s03
      refine ⟨_, rfl, _, rfl, _, _, _, _, rfl, rfl, SqT.of g1', rfl, o, os, k1, 7, 0, 0, 40, rfl, ho3, by decide, by decide, fun z e => ⟨by have := (ho.lt z (List.mem_of_getElem? e)).1; omega, by have := hz z e; show z < ((0 + 2 ^ 7 : Nat) : Int); omega⟩, by decide, by decide, by decide, fun t2 H4 s4 g4 => ?_⟩
      have g1s := s4 _ _ g1'
      have s14 := s03.trans s4
      generalize takeStr os 7 0 0 40 k1 = R2 at g4 q
      cases R2 with
      | error e =>
        have g4 : H4 t2 = some (.tup [.str "bad", .int (e : Nat)]) := g4
        refine ⟨_, rfl, _, _, _, _, rfl, rfl, SqT.of g4, rfl, rfl, _, rfl, ifT (by decide) ?_⟩
        exact ⟨_, rfl, q t2 H4 s14 g4⟩
      | ok y =>
        obtain ⟨x, k2⟩ := y
        have g4 : H4 t2 = some (.tup [.str "ok", .str x, .int (k2 : Nat)]) := g4
        refine ⟨_, rfl, _, _, _, _, rfl, rfl, SqT.of g4, rfl, rfl, _, rfl, ifF (by decide) ?_⟩
        refine ⟨_, rfl, rfl, _, rfl, ifT (decide_eq_true rfl) ⟨_, rfl, _, _, _, _, rfl, rfl, SqT.of g1s, rfl, ?_⟩⟩
        refine ⟨_, rfl, z2, fun m1 hm1 => ⟨_, _, rfl, .inr (SqT.of upd_same), rfl, rfl, _, rfl, ifF hw ?_⟩⟩
        have sA := Same.new (o := .tup [.str "before", .str "behind"]) hm1
        generalize upd H4 m1 (.tup [.str "before", .str "behind"]) = H5 at sA ⊢
        have g4' := sA _ _ g4
        refine ⟨_, rfl, _, rfl, _, rfl, _, _, _, _, rfl, rfl, SqT.of g4', rfl, z3, fun m2 hm2 => ⟨_, rfl, _, _, _, _, rfl, rfl, (Same.new hm2).tup (SqT.of g4'), rfl, z3, fun m3 hm3 => ?_⟩⟩
        have sB := Same.new (o := .tup [.str wd, v, .str x]) hm2
        exact q m3 _ (((s14.trans sA).trans sB).trans (Same.new hm3)) ⟨m2, upd_same, SqT.of (Same.new hm3 _ _ upd_same)⟩

theorem ok_law_read_instruction (T : Txt K mg) : FnOk P w K mg base CX0 4 T.f_law_read_instruction T.d_law_read_instruction ["octets"] (sp_rd_ins K) := by
  refine T.F_law_read_instruction.ok sc_law_read_instruction (fun vs H Q E h => ?_) (fun cdv A outer s H vs Q E hr h => ?_)
  · obtain ⟨o, os, rfl, _⟩ := h
    rfl
  · obtain ⟨o, os, rfl, ho, q⟩ := h
    have hud : (A.deeper (envOfC "_law_read_instruction" (defScope s_law_read_instruction) s.heap.objs.size T.f_law_read_instruction cdv)).units + 64 < cLine := by have := hr.un; omega
    refine ⟨_, (pss_cons (ps_if (pt_cmpR (op_eqL hud) (pv 0) (pe_lst pa_nil) (nomark _)) (pss_one (ps_ret (pe_tup (pa_cons pe_str (pa_cons pe_int pa_nil))))) pss_nil)
      (pss_cons (ps_set (i := 1) sc_law_read_instruction.nd rfl (Or.inl rfl) (pe_ix ix_list (pv 0) pe_int (fun _ _ => rfl)))
      (pss_cons (ps_if (pt_cmpR op_gt (pv 1) pe_int (nomark _)) (pss_one (ps_ret (pe_call (ok_law_read_pair T) (hr.mono (by decide)) rfl T.g_law_read_pair T.F_law_read_pair.kp T.b_law_read_pair .nil pass0 (pa_cons (pv 0) (pa_cons pe_int (pa_cons (pe_tup (pa_cons (pe_ifExp (pt_cmpR op_gt (pv 1) pe_int (nomark _)) pe_str pe_str) (pa_cons pe_str (pa_cons pe_int (pa_cons pe_int (pa_cons pe_int pa_nil)))))) (pa_cons pe_non pa_nil))))))) pss_nil)
      (pss_cons (ps_if (pt_cmpR op_gt (pv 1) pe_int (nomark _)) (pss_one (ps_ret (pe_tup (pa_cons pe_str (pa_cons pe_int pa_nil))))) pss_nil)
      (pss_cons (ps_if (pt_cmpR op_gt (pv 1) pe_int (nomark _)) (pss_one (ps_ret (pe_call (ok_law_read_pair T) (hr.mono (by decide)) rfl T.g_law_read_pair T.F_law_read_pair.kp T.b_law_read_pair .nil pass0 (pa_cons (pv 0) (pa_cons pe_int (pa_cons (pe_tup (pa_cons pe_str (pa_cons pe_str (pa_cons pe_int (pa_cons pe_int (pa_cons pe_int pa_nil)))))) (pa_cons pe_non pa_nil))))))) pss_nil)
      (pss_one (ps_ret (pe_call (ok_law_read_single T) (hr.mono (by decide)) rfl T.g_law_read_single T.F_law_read_single.kp T.b_law_read_single .nil pass0 (pa_cons (pv 0) (pa_cons pe_int (pa_cons (pe_tup (pa_cons (pe_ifExp (pt_cmpR op_gt (pv 1) pe_int (nomark _)) pe_str pe_str) (pa_cons pe_str (pa_cons pe_int (pa_cons pe_int (pa_cons pe_int pa_nil)))))) (pa_cons pe_non pa_nil)))))))))))), ?_⟩
    have hos : ∀ o ∈ os, 0 ≤ o := fun o m => (ho.lt o m).1
    refine ⟨_, rfl, by show 0 ≤ sizeLine; decide, fun t0 ht0 => ?_⟩
    have s0 := Same.new (o := .lst []) ht0
    refine ⟨_, _, _, rfl, rfl, s0.seq ho.sq, SqL.of upd_same, _, rfl, ?_⟩
    generalize upd H t0 (.lst []) = H1 at s0 ⊢
    have ho := ho.same s0
    cases hz : os[0]? with
    | none =>
      have he : os = [] := by cases os with | nil => rfl | cons a l => cases hz
      subst he
      refine ifT rfl ⟨by show 2 ≤ sizeLine; decide, fun t ht => q t _ (s0.trans (Same.new ht)) ?_⟩
      exact upd_same
    | some z =>
      have hzb := ho.lt z (List.mem_of_getElem? hz)
      have hne : (os.map V.int).isEmpty = false := by cases os with | nil => cases hz | cons a l => rfl
      refine ifF hne ?_
      refine ⟨_, rfl, o, _, _, _, rfl, rfl, ho.sq, atI_nat (j := 0) (by rw [List.getElem?_map, hz]; rfl), ?_⟩
      refine ⟨_, rfl, _, _, rfl, rfl, _, rfl, ifb (fun h1 => ?_) (fun h1 => ?_)⟩
      · have h1 : 127 < z := of_decide_eq_true h1
        refine ⟨_, rfl, _, rfl, _, _, rfl, rfl, _, rfl, ifb (fun h2 => ?_) (fun h2 => ?_)⟩
        · have h2 : 191 < z := of_decide_eq_true h2
          refine ⟨by show 5 ≤ sizeLine; decide, fun tf htf => ?_⟩
          have sf := Same.new (o := .tup [.str "fixed", .str "number", .int 6, .int 0, .int 9999]) htf
          refine ⟨o, tf, os, 0, 6, 192, 0, 9999, "fixed", false, rfl, SqT.of upd_same, ho.same sf, by decide, by decide, mk_of hz (by omega) (by show z < ((192 + 2 ^ 6 : Nat) : Int); omega), by decide, by decide, by decide, (fun z => nomatch z), by unfold WordOk; decide, fun t H2 s2 k => q t H2 ((s0.trans sf).trans s2) ?_⟩
          rw [ins_fixed hz (by omega) hos] at k
          exact k
        · have h2 : ¬ 191 < z := of_decide_eq_false h2
          refine ⟨by show 5 ≤ sizeLine; decide, fun tf htf => ?_⟩
          have sf := Same.new (o := .tup [.str "entry", .str "number", .int 6, .int 0, .int 9999]) htf
          refine ⟨o, tf, os, 0, 6, 128, 0, 9999, "entry", false, rfl, SqT.of upd_same, ho.same sf, by decide, by decide, mk_of hz (by omega) (by show z < ((128 + 2 ^ 6 : Nat) : Int); omega), by decide, by decide, by decide, (fun z => nomatch z), by unfold WordOk; decide, fun t H2 s2 k => q t H2 ((s0.trans sf).trans s2) ?_⟩
          rw [ins_entry hz (by omega) (by omega) hos] at k
          exact k
      have h1 : ¬ 127 < z := of_decide_eq_false h1
      refine ⟨_, rfl, _, _, rfl, rfl, _, rfl, ifb (fun h3 => ?_) (fun h3 => ?_)⟩
      · have h3 : 95 < z := of_decide_eq_true h3
        refine ⟨by show 2 ≤ sizeLine; decide, fun t ht => q t _ (s0.trans (Same.new ht)) ?_⟩
        rw [ins_bad hz (by omega) (by omega)]
        exact upd_same
      have h3 : ¬ 95 < z := of_decide_eq_false h3
      refine ⟨_, rfl, _, _, rfl, rfl, _, rfl, ifb (fun h4 => ?_) (fun h4 => ?_)⟩
      · have h4 : 63 < z := of_decide_eq_true h4
        refine ⟨_, rfl, by show 5 ≤ sizeLine; decide, fun tf htf => ?_⟩
        have sf := Same.new (o := .tup [.str "new", .str "text", .int 5, .int 1, .int 20]) htf
        refine ⟨o, tf, os, 0, 5, 64, 1, 20, "new", true, rfl, SqT.of upd_same, ho.same sf, by decide, by decide, mk_of hz (by omega) (by show z < ((64 + 2 ^ 5 : Nat) : Int); omega), by decide, by decide, by decide, fun _ => by decide, by unfold WordOk; decide, fun t H2 s2 k => q t H2 ((s0.trans sf).trans s2) ?_⟩
        rw [ins_new hz (by omega) (by omega)] at k
        exact k
      have h4 : ¬ 63 < z := of_decide_eq_false h4
      refine ⟨_, rfl, _, rfl, _, _, rfl, rfl, _, rfl, ifb (fun h5 => ?_) (fun h5 => ?_)⟩
      · have h5 : 31 < z := of_decide_eq_true h5
        refine ⟨by show 5 ≤ sizeLine; decide, fun tf htf => ?_⟩
        have sf := Same.new (o := .tup [.str "limit", .str "number", .int 5, .int 0, .int 9999]) htf
        refine ⟨o, tf, os, 0, 5, 32, 0, 9999, "limit", rfl, SqT.of upd_same, ho.same sf, by decide, by decide, mk_of hz (by omega) (by show z < ((32 + 2 ^ 5 : Nat) : Int); omega), by decide, by decide, by unfold WordOk; decide, fun t H2 s2 k => q t H2 ((s0.trans sf).trans s2) ?_⟩
        rw [ins_limit hz (by omega) (by omega) hos] at k
        exact k
      · have h5 : ¬ 31 < z := of_decide_eq_false h5
        refine ⟨by show 5 ≤ sizeLine; decide, fun tf htf => ?_⟩
        have sf := Same.new (o := .tup [.str "again", .str "number", .int 5, .int 0, .int 9999]) htf
        refine ⟨o, tf, os, 0, 5, 0, 0, 9999, "again", rfl, SqT.of upd_same, ho.same sf, by decide, by decide, mk_of hz (by omega) (by show z < ((0 + 2 ^ 5 : Nat) : Int); omega), by decide, by decide, by unfold WordOk; decide, fun t H2 s2 k => q t H2 ((s0.trans sf).trans s2) ?_⟩
        rw [ins_again hz (by omega) hos] at k
        exact k
theorem ok_law_read_answer (T : Txt K mg) : FnOk P w K mg base CX0 3 T.f_law_read_answer T.d_law_read_answer ["octets"] (sp_rd_ans K) := by
  refine T.F_law_read_answer.ok sc_law_read_answer (fun vs H Q E h => ?_) (fun cdv A outer s H vs Q E hr h => ?_)
  · obtain ⟨o, os, rfl, _⟩ := h
    rfl
  · obtain ⟨o, os, rfl, ho, q⟩ := h
    have hud : (A.deeper (envOfC "_law_read_answer" (defScope s_law_read_answer) s.heap.objs.size T.f_law_read_answer cdv)).units + 64 < cLine := by have := hr.un; omega
    refine ⟨_, (pss_cons (ps_if (pt_cmpR (op_eqL hud) (pv 0) (pe_lst pa_nil) (nomark _)) (pss_one (ps_ret (pe_tup (pa_cons pe_str (pa_cons pe_int pa_nil))))) pss_nil)
      (pss_cons (ps_set (i := 1) sc_law_read_answer.nd rfl (Or.inl rfl) (pe_ix ix_list (pv 0) pe_int (fun _ _ => rfl)))
      (pss_cons (ps_if (pt_cmpR op_gt (pv 1) pe_int (nomark _)) (pss_cons (ps_set (i := 2) sc_law_read_answer.nd rfl (Or.inl rfl) (pe_ifExp (pt_cmpR op_gt (pv 1) pe_int (nomark _)) (pe_tup (pa_cons pe_str (pa_cons pe_str (pa_cons pe_int (pa_cons pe_int (pa_cons pe_int pa_nil)))))) (pe_tup (pa_cons pe_str (pa_cons pe_str (pa_cons pe_int (pa_cons pe_int (pa_cons pe_int pa_nil))))))))
      (pss_one (ps_ret (pe_call (ok_law_read_single T) (hr.mono (by decide)) rfl T.g_law_read_single T.F_law_read_single.kp T.b_law_read_single .nil pass0 (pa_cons (pv 0) (pa_cons pe_int (pa_cons (pv 2) (pa_cons pe_non pa_nil)))))))) pss_nil)
      (pss_one (ps_ret (pe_call (ok_law_read_single T) (hr.mono (by decide)) rfl T.g_law_read_single T.F_law_read_single.kp T.b_law_read_single .nil pass0 (pa_cons (pv 0) (pa_cons pe_int (pa_cons (pe_tup (pa_cons pe_str (pa_cons pe_str (pa_cons pe_int (pa_cons pe_int (pa_cons pe_int pa_nil)))))) (pa_cons pe_non pa_nil)))))))))), ?_⟩
    have hos : ∀ o ∈ os, 0 ≤ o := fun o m => (ho.lt o m).1
    refine ⟨_, rfl, by show 0 ≤ sizeLine; decide, fun t0 ht0 => ?_⟩
    have s0 := Same.new (o := .lst []) ht0
    refine ⟨_, _, _, rfl, rfl, s0.seq ho.sq, SqL.of upd_same, _, rfl, ?_⟩
    generalize upd H t0 (.lst []) = H1 at s0 ⊢
    have ho := ho.same s0
    cases hz : os[0]? with
    | none =>
      have he : os = [] := by cases os with | nil => rfl | cons a l => cases hz
      subst he
      refine ifT rfl ⟨by show 2 ≤ sizeLine; decide, fun t ht => q t _ (s0.trans (Same.new ht)) ?_⟩
      exact upd_same
    | some z =>
      have hzb := ho.lt z (List.mem_of_getElem? hz)
      have hne : (os.map V.int).isEmpty = false := by cases os with | nil => cases hz | cons a l => rfl
      refine ifF hne ?_
      refine ⟨_, rfl, o, _, _, _, rfl, rfl, ho.sq, atI_nat (j := 0) (by rw [List.getElem?_map, hz]; rfl), ?_⟩
      refine ⟨_, rfl, _, _, rfl, rfl, _, rfl, ifb (fun h1 => ?_) (fun h1 => ?_)⟩
      · have h1 : 63 < z := of_decide_eq_true h1
        refine ⟨_, rfl, _, _, rfl, rfl, _, rfl, ifb (fun h2 => ?_) (fun h2 => ?_)⟩
        · have h2 : 127 < z := of_decide_eq_true h2
          refine ⟨by show 5 ≤ sizeLine; decide, fun tf htf => ?_⟩
          have sf := Same.new (o := .tup [.str "done", .str "number", .int 7, .int 0, .int 20]) htf
          refine ⟨_, rfl, _, rfl, o, tf, os, 0, 7, 128, 0, 20, "done", rfl, SqT.of upd_same, ho.same sf, by decide, by decide, mk_of hz (by omega) (by show z < ((128 + 2 ^ 7 : Nat) : Int); omega), by decide, by decide, by unfold WordOk; decide, fun t H2 s2 k => q t H2 ((s0.trans sf).trans s2) ?_⟩
          rw [ans_done hz (by omega) hos] at k
          exact k
        · have h2 : ¬ 127 < z := of_decide_eq_false h2
          refine ⟨by show 5 ≤ sizeLine; decide, fun tf htf => ?_⟩
          have sf := Same.new (o := .tup [.str "cancelled", .str "number", .int 6, .int 0, .int 20]) htf
          refine ⟨_, rfl, _, rfl, o, tf, os, 0, 6, 64, 0, 20, "cancelled", rfl, SqT.of upd_same, ho.same sf, by decide, by decide, mk_of hz (by omega) (by show z < ((64 + 2 ^ 6 : Nat) : Int); omega), by decide, by decide, by unfold WordOk; decide, fun t H2 s2 k => q t H2 ((s0.trans sf).trans s2) ?_⟩
          rw [ans_canc hz (by omega) (by omega) hos] at k
          exact k
      · have h1 : ¬ 63 < z := of_decide_eq_false h1
        refine ⟨_, rfl, by show 5 ≤ sizeLine; decide, fun tf htf => ?_⟩
        have sf := Same.new (o := .tup [.str "received", .str "number", .int 6, .int 1, .int 9999]) htf
        refine ⟨o, tf, os, 0, 6, 0, 1, 9999, "received", rfl, SqT.of upd_same, ho.same sf, by decide, by decide, mk_of hz (by omega) (by show z < ((0 + 2 ^ 6 : Nat) : Int); omega), by decide, by decide, by unfold WordOk; decide, fun t H2 s2 k => q t H2 ((s0.trans sf).trans s2) ?_⟩
        rw [ans_recv hz (by omega) hos] at k
        exact k
theorem ok_law_whole (T : Txt K mg) : FnOk P w K mg base CX0 1 T.f_law_whole T.d_law_whole ["told", "octets"] (sp_rd_whole K) := by
  refine T.F_law_whole.ok sc_law_whole (fun vs H Q E h => ?_) (fun cdv A outer s H vs Q E hr h => ?_)
  · obtain ⟨t, o, xs, r, rfl, _⟩ := h
    rfl
  · obtain ⟨t, o, xs, r, rfl, g, hs, q⟩ := h
    refine ⟨_, (pss_cons (ps_if (pt_cmpR op_eq (pe_ix ix_tup (pv 0) pe_int (fun _ _ => rfl)) pe_str (nomark _)) (pss_one (ps_ret (pv 0))) pss_nil)
      (pss_one (ps_ret (pe_ifExp (pt_cmpR op_eq (pe_ix ix_tup (pv 0) pe_int (fun _ _ => rfl)) (pe_callB call_len rfl T.z_len boot_len (pa_cons (pv 1) pa_nil)) (nomark _)) (pe_tup (pa_cons pe_str (pa_cons (pe_ix ix_tup (pv 0) pe_int (fun _ _ => rfl)) pa_nil))) (pe_tup (pa_cons pe_str (pa_cons (pe_ix ix_tup (pv 0) pe_int (fun _ _ => rfl)) pa_nil))))))), ?_⟩
    cases r with
    | error e =>
      have g : H t = some (.tup [.str "bad", .int (e : Nat)]) := g
      refine ⟨_, rfl, _, _, _, _, rfl, rfl, SqT.of g, rfl, rfl, _, rfl, ifT (by decide) ?_⟩
      exact ⟨_, rfl, q t H (Same.refl _) g⟩
    | ok y =>
      obtain ⟨vs, k⟩ := y
      obtain ⟨u, g, hu⟩ := g
      refine ⟨_, rfl, _, _, _, _, rfl, rfl, SqT.of g, rfl, rfl, _, rfl, ifF (by decide) ?_⟩
      refine ⟨_, rfl, _, _, _, _, rfl, rfl, SqT.of g, rfl, _, rfl, _, _, rfl, .inl ⟨_, hs, rfl⟩, rfl, _, rfl, ifb (fun h => ?_) (fun h => ?_)⟩
      · have h : k = xs.length := by have := V.int.inj (of_decide_eq_true h); omega
        refine ⟨_, rfl, _, _, _, _, rfl, rfl, SqT.of g, rfl, by show 2 ≤ sizeLine; decide, fun t2 ht2 => q t2 _ (Same.new ht2) ?_⟩
        show TkE K _ t2 (if k = xs.length then .ok vs else .error k)
        rw [if_pos h]
        exact ⟨u, upd_same, (Same.new ht2).tup hu⟩
      · have h : k ≠ xs.length := fun e => (of_decide_eq_false h) (by rw [e])
        refine ⟨_, rfl, _, _, _, _, rfl, rfl, SqT.of g, rfl, by show 2 ≤ sizeLine; decide, fun t2 ht2 => q t2 _ (Same.new ht2) ?_⟩
        show TkE K _ t2 (if k = xs.length then .ok vs else .error k)
        rw [if_neg h]
        exact upd_same

theorem ok_law_told__body (T : Txt K mg) {α : Type} (g : List Int → Nat → Except Nat (α × Nat)) (R : α → V → Hp → Prop) (toV : α → List V) (hR : ∀ a v H, R a v H → ∃ u, v = .ref u ∧ SqT K H u (toV a)) (l : LW) (ps : List Str)
    (hFn : ∀ f c', LOk P w K mg base (CX P w) 11 f (l.nf lamQ c') l.body ps (sp_read K T.C_NoOctets T.C_NoOctetList g R)) :
    FnOk P w K mg base CX0 12 T.f_law_told T.d_law_told ["read", "octets"] (sp_told1 K l (wRes g toV)) := by
  refine T.F_law_told.ok sc_law_told (fun vs H Q E h => ?_) (fun cdv A outer s H vs Q E hr h => ?_)
  · obtain ⟨f, c', v, rfl, _⟩ := h
    rfl
  · obtain ⟨f, c', v, rfl, gf, gc, q⟩ := h
    refine ⟨_, (pss_cons (ps_asg (pe_tup (pa_cons pe_non (pa_cons pe_non pa_nil))) (pg_tup rfl (pgs_cons (pg_name (i := 2) sc_law_told.nd rfl (Or.inl rfl)) (pgs_cons (pg_name (i := 3) sc_law_told.nd rfl (Or.inl rfl)) pgs_nil))))
      (pss_cons (ps_try_keep (i := 4) rfl rfl sc_law_told.nd rfl rfl ⟨rfl, rfl, .inl T.B_FieldError.g⟩ rfl takes0 (fun W pn xe tk hp =>
        (pss_one (ps_set (i := 3) sc_law_told.nd rfl (Or.inl rfl) (pe_callL (i := 0) (j := 11) hFn (hr.mono (by decide)) (by decide) (fun σ => passAt tk σ) rfl (Or.inl rfl) (pa_cons (pv 1) pa_nil))))) (fun _ _ _ _ _ _ _ => (pss_one (ps_set (i := 2) sc_law_told.nd rfl (Or.inl rfl) (pv 4)))))
      (pss_cons (ps_if (pt_cmpR op_isN (pv 2) pe_non (nomark _)) (pss_one (ps_ret (pe_tup (pa_cons pe_str (pa_cons (pv 3) pa_nil))))) pss_nil)
      (pss_cons (ps_if (pt_val (pe_callB call_isW rfl T.z_isinstance boot_isinstance (pa_cons (pv 2) (pa_cons (pe_glob (v := .ref T.C_NoOctets) rfl T.E_NoOctets.g rfl) pa_nil)))) (pss_one (ps_ret (pe_tup (pa_cons pe_str (pa_cons (pe_xd (pv 2) rfl) pa_nil))))) pss_nil)
      (pss_one (ps_ret (pe_ifExp (pt_val (pe_callB call_isW rfl T.z_isinstance boot_isinstance (pa_cons (pv 2) (pa_cons (pe_glob (v := .ref T.C_NoOctetList) rfl T.P_NoOctetList.g rfl) pa_nil)))) pe_str pe_str))))))), ?_⟩
    have kNN := T.X_NoOctets.self T.U_NoOctets_NoOctets
    have kLN := T.X_NoOctets.not T.U_NoOctetList_NoOctets T.U_NoOctets_NoOctets
    have kLL := T.X_NoOctetList.self T.U_NoOctetList_NoOctetList
    refine ⟨by show 2 ≤ sizeLine; decide, fun tq htq => ⟨tq, _, rfl, SqT.of upd_same, rfl, ⟨_, _, rfl, ⟨_, _, rfl, rfl, ?_⟩⟩⟩⟩
    have s0 := Same.new (o := .tup [.non, .non]) htq
    have gf := s0 _ _ gf
    have gc := s0 _ _ gc
    have q := Told.pre s0 q
    generalize upd H tq (.tup [.non, .non]) = H1 at s0 gf gc q ⊢
    refine ⟨f, c', rfl, gf, _, rfl, gf, gc, v, rfl, ?_⟩
    -- an error of each class, kept
    rcases q with ⟨a, xs, rfl, hs, hl, hk, q⟩ | ⟨t, k, ht, q⟩
    · refine .inl ⟨a, xs, rfl, hs, hl, hk, ?_⟩
      by_cases c : octV xs = true
      · rw [if_pos c] at q ⊢
        obtain ⟨os, e, q⟩ := q
        refine ⟨os, e, ?_⟩
        unfold wRes at q
        cases hw : whole os g with
        | ok x =>
          rw [hw] at q
          intro u H2 s2 hr
          obtain ⟨ua, rfl, hu⟩ := hR x u H2 hr
          refine ⟨_, rfl, rfl, _, rfl, ifT rfl ?_⟩
          exact ⟨_, rfl, by show 2 ≤ sizeLine; decide, fun t ht => q t _ (s2.trans (Same.new ht)) ⟨ua, upd_same, (Same.new ht).tup hu⟩⟩
        | error k =>
          rw [hw] at q
          intro d H2 s2 gd
          refine ⟨true, T.R_FieldError.exm T.S_NoOctets, fun _ a na => ?_, fun z => nomatch z⟩
          refine ⟨_, rfl, fun na2 => ?_⟩
          have sA := Same.new (o := ExK (.ref T.C_NoOctets) (some d) a) na2
          have hE : ErrD (upd H2 a (ExK (.ref T.C_NoOctets) (some d) a)) a T.C_NoOctets [("place", .int (k : Nat))] := ⟨d, upd_same, sA _ _ gd⟩
          refine ⟨_, rfl, rfl, _, rfl, ifF rfl ?_⟩
          refine ⟨_, rfl, .inr ⟨a, T.C_NoOctets, _, _, _, true, rfl, hE, T.X_NoOctets.x, .own _, kNN, _, rfl, ifT rfl ?_⟩⟩
          refine ⟨_, rfl, a, T.C_NoOctets, _, _, rfl, xfc_of T.X_NoOctets.x, T.E_NoOctets.no, hE, rfl, by show 2 ≤ sizeLine; decide, fun tp htp => ?_⟩
          exact q _ _ ((s2.trans sA).trans (Same.new htp)) upd_same
      · rw [if_neg c] at q ⊢
        intro H2 s2
        refine ⟨true, T.R_FieldError.exm T.S_NoOctetList, fun _ a na => ?_, fun z => nomatch z⟩
        refine ⟨_, rfl, fun na2 => ?_⟩
        have sA := Same.new (o := ExK (.ref T.C_NoOctetList) none a) na2
        refine ⟨_, rfl, rfl, _, rfl, ifF rfl ?_⟩
        refine ⟨_, rfl, .inl (.inr ⟨a, T.C_NoOctetList, _, _, false, rfl, upd_same, T.X_NoOctetList.x, .own _, kLN, _, rfl, ifF rfl ?_⟩)⟩
        exact ⟨_, rfl, .inl (.inr ⟨a, T.C_NoOctetList, _, _, true, rfl, upd_same, T.X_NoOctetList.x, .own _, kLL, _, rfl, ifT rfl (q _ (s2.trans sA))⟩)⟩
    · refine .inr ⟨t, k, ht, fun H2 s2 => ?_⟩
      refine ⟨true, T.R_FieldError.exm T.S_NoOctetList, fun _ a na => ?_, fun z => nomatch z⟩
      refine ⟨_, rfl, fun na2 => ?_⟩
      have sA := Same.new (o := ExK (.ref T.C_NoOctetList) none a) na2
      refine ⟨_, rfl, rfl, _, rfl, ifF rfl ?_⟩
      refine ⟨_, rfl, .inl (.inr ⟨a, T.C_NoOctetList, _, _, false, rfl, upd_same, T.X_NoOctetList.x, .own _, kLN, _, rfl, ifF rfl ?_⟩)⟩
      exact ⟨_, rfl, .inl (.inr ⟨a, T.C_NoOctetList, _, _, true, rfl, upd_same, T.X_NoOctetList.x, .own _, kLL, _, rfl, ifT rfl (q _ (s2.trans sA))⟩)⟩

theorem lok_row (T : Txt K mg) (f c' : Addr) : LOk P w K mg base (CX P w) 11 f (lwA.nf lamQ c') lwA.body ["row"] (sp_read K T.C_NoOctets T.C_NoOctetList takeIns (rIns K)) := by
  refine lok_of (N := ["row"]) (NdefX.nscope_by (show NdefX.nscB _ _ [] lwA.scope = true by decide +kernel)) rfl (fun pm ctv us h => ?_) (fun vs H Q E h => ?_) (fun A outer s H vs Q E hr h => ?_)
  · match us, h with
    | [u], _ => rfl
  · obtain ⟨v, rfl, _⟩ := h
    rfl
  · refine ⟨_, (pe_call (ok_read_instruction T) (hr.mono (by decide)) rfl T.g_read_instruction T.F_read_instruction.kp T.b_read_instruction .nil (passes_call (takes_of rfl rfl rfl rfl) (fun _ _ _ _ h => h)) (pa_cons (pv 0) pa_nil)), ?_⟩
    obtain ⟨v, rfl, q⟩ := h
    exact ⟨_, rfl, v, rfl, q⟩
theorem lok_other (T : Txt K mg) (f c' : Addr) : LOk P w K mg base (CX P w) 11 f (lwB.nf lamQ c') lwB.body ["other"] (sp_read K T.C_NoOctets T.C_NoOctetList takeAns (rAns K)) := by
  refine lok_of (N := ["other"]) (NdefX.nscope_by (show NdefX.nscB _ _ [] lwB.scope = true by decide +kernel)) rfl (fun pm ctv us h => ?_) (fun vs H Q E h => ?_) (fun A outer s H vs Q E hr h => ?_)
  · match us, h with
    | [u], _ => rfl
  · obtain ⟨v, rfl, _⟩ := h
    rfl
  · refine ⟨_, (pe_call (ok_read_answer T) (hr.mono (by decide)) rfl T.g_read_answer T.F_read_answer.kp T.b_read_answer .nil (passes_call (takes_of rfl rfl rfl rfl) (fun _ _ _ _ h => h)) (pa_cons (pv 0) pa_nil)), ?_⟩
    obtain ⟨v, rfl, q⟩ := h
    exact ⟨_, rfl, v, rfl, q⟩
theorem lok_third (T : Txt K mg) (f c' : Addr) : LOk P w K mg base (CX P w) 11 f (lwC.nf lamQ c') lwC.body ["third"] (sp_read K T.C_NoOctets T.C_NoOctetList takeIns (rIns K)) := by
  refine lok_of (N := ["third"]) (NdefX.nscope_by (show NdefX.nscB _ _ [] lwC.scope = true by decide +kernel)) rfl (fun pm ctv us h => ?_) (fun vs H Q E h => ?_) (fun A outer s H vs Q E hr h => ?_)
  · match us, h with
    | [u], _ => rfl
  · obtain ⟨v, rfl, _⟩ := h
    rfl
  · refine ⟨_, (pe_call (ok_read_instruction T) (hr.mono (by decide)) rfl T.g_read_instruction T.F_read_instruction.kp T.b_read_instruction .nil (passes_call (takes_of rfl rfl rfl rfl) (fun _ _ _ _ h => h)) (pa_cons (pv 0) pa_nil)), ?_⟩
    obtain ⟨v, rfl, q⟩ := h
    exact ⟨_, rfl, v, rfl, q⟩
theorem lok_fourth (T : Txt K mg) (f c' : Addr) : LOk P w K mg base (CX P w) 11 f (lwD.nf lamQ c') lwD.body ["fourth"] (sp_read K T.C_NoOctets T.C_NoOctetList takeAns (rAns K)) := by
  refine lok_of (N := ["fourth"]) (NdefX.nscope_by (show NdefX.nscB _ _ [] lwD.scope = true by decide +kernel)) rfl (fun pm ctv us h => ?_) (fun vs H Q E h => ?_) (fun A outer s H vs Q E hr h => ?_)
  · match us, h with
    | [u], _ => rfl
  · obtain ⟨v, rfl, _⟩ := h
    rfl
  · refine ⟨_, (pe_call (ok_read_answer T) (hr.mono (by decide)) rfl T.g_read_answer T.F_read_answer.kp T.b_read_answer .nil (passes_call (takes_of rfl rfl rfl rfl) (fun _ _ _ _ h => h)) (pa_cons (pv 0) pa_nil)), ?_⟩
    obtain ⟨v, rfl, q⟩ := h
    exact ⟨_, rfl, v, rfl, q⟩
theorem ok_law_told (T : Txt K mg) : FnOk P w K mg base CX0 12 T.f_law_told T.d_law_told ["read", "octets"] (sp_told8 K) := by
  have hI : ∀ (a : Ins) (v : V) (H : Hp), rIns K a v H → ∃ u, v = .ref u ∧ SqT K H u a.vs := fun a v H h => h
  have hA : ∀ (a : Ans) (v : V) (H : Hp), rAns K a v H → ∃ u, v = .ref u ∧ SqT K H u a.vs := fun a v H h => h
  have a := ok_law_told__body (P := P) (w := w) (base := base) T takeIns (rIns K) Ins.vs hI lwA _ (lok_row T)
  have b := ok_law_told__body (P := P) (w := w) (base := base) T takeAns (rAns K) Ans.vs hA lwB _ (lok_other T)
  have c := ok_law_told__body (P := P) (w := w) (base := base) T takeIns (rIns K) Ins.vs hI lwC _ (lok_third T)
  have d := ok_law_told__body (P := P) (w := w) (base := base) T takeAns (rAns K) Ans.vs hA lwD _ (lok_fourth T)
  refine ⟨fun vs H Q E h => ?_, fun A outer s H args us vs Q E hr e0 hb r h => ?_⟩
  · rcases h with (h | h) | h | h
    · exact a.len _ _ _ _ h
    · exact b.len _ _ _ _ h
    · exact c.len _ _ _ _ h
    · exact d.len _ _ _ _ h
  · rcases h with (h | h) | h | h
    · exact a.run A outer s H args us vs Q E hr e0 hb r h
    · exact b.run A outer s H args us vs Q E hr e0 hb r h
    · exact c.run A outer s H args us vs Q E hr e0 hb r h
    · exact d.run A outer s H args us vs Q E hr e0 hb r h

theorem ok_law (T : Txt K mg) {c0 P0 : Addr} (hcd : T.d_law.code = .ref c0) : TopOkT P w K mg [(c0, P0)] 13 T.f_law T.d_law ["script"] (spLaw8 K [(c0, P0)]) := by
  refine top_ofT T.F_law sc_law (fun vs H Q E h => ?_) (fun base cdv A outer s H vs Q E TB hfd hA hr h => ?_)
  · obtain ⟨a, ns, rfl, _⟩ := h
    rfl
  · obtain ⟨a, ns, rfl, hS, hl, hO, q⟩ := h
    have hgd : (A.deeper (envOfC "law" (defScope s_law) s.heap.objs.size T.f_law cdv)).guards = some [] := hA
    have hud : (A.deeper (envOfC "law" (defScope s_law) s.heap.objs.size T.f_law cdv)).units + 64 < cLine := by have := hr.un; omega
    have TBc : LamX.TabB base mg c0 P0 := TB _ (List.mem_singleton.mpr rfl)
    have hcc : (envOfC "law" (defScope s_law) s.heap.objs.size T.f_law cdv).code = .ref c0 := hfd.symm.trans hcd
    have huT : ∀ p ∈ TB8 P0, p.1 = P0 → p.2 = fun _ _ => (envOfC "law" (defScope s_law) s.heap.objs.size T.f_law cdv).qual ++ "<lambda>" := fun p hp _ => by rw [List.mem_singleton.mp hp]; rfl
    refine ⟨_, (pss_cons (ps_set (i := 1) sc_law.nd rfl (Or.inr rfl) (pe_call (ok_law_open T) (hr.mono (by decide)) rfl T.g_law_open T.F_law_open.kp T.b_law_open .nil pass0 (pa_cons (pv 0) pa_nil)))
      (pss_cons (ps_for PassesOwn.never rfl (pi_range1 rfl T.z_range (pa_cons pe_int pa_nil)) (pg_name (i := 2) sc_law.nd rfl (Or.inl rfl))
        (Evl.pss_cut (ps_set (i := 3) sc_law.nd rfl (Or.inr rfl) (pe_call (ok_law_instruction_octets T) (hr.mono (by decide)) rfl T.g_law_instruction_octets T.F_law_instruction_octets.kp T.b_law_instruction_octets .nil pass0 (pa_cons (pe_call (ok_law_draw_instruction T) (hr.mono (by decide)) rfl T.g_law_draw_instruction T.F_law_draw_instruction.kp T.b_law_draw_instruction .nil pass0 (pa_cons (pv 1) pa_nil)) pa_nil)))
      (Evl.pss_cut (ps_set (i := 4) sc_law.nd rfl (Or.inr rfl) (pe_call (ok_law_answer_octets T) (hr.mono (by decide)) rfl T.g_law_answer_octets T.F_law_answer_octets.kp T.b_law_answer_octets .nil pass0 (pa_cons (pe_call (ok_law_draw_answer T) (hr.mono (by decide)) rfl T.g_law_draw_answer T.F_law_draw_answer.kp T.b_law_draw_answer .nil pass0 (pa_cons (pv 1) pa_nil)) pa_nil)))
      (Evl.pss_cut (ps_set (i := 5) sc_law.nd rfl (Or.inl rfl) (pe_lst (pa_cons (pv 3) (pa_cons (pv 4) (pa_cons (pe_op op_cat (pv 3) (pv 4)) (pa_cons (pe_lst pa_nil) pa_nil))))))
      (Evl.pss_cut (ps_set (i := 5) sc_law.nd rfl (Or.inl rfl) (pe_op op_cat (pv 5) (pe_lc (own := [("again", 6)]) (g := (gName 6)) (tt := tYes)  rfl sc_law.nd (pi_range1 rfl T.z_range (pa_cons pe_int pa_nil)) (blkOk_by (own := [("again", 6)]) (N := ["script", "pen", "turn", "octets", "answer", "some", "again", "seen", "due", "told", "odd", "good", "spot", "bent", "wrong"]) (sc := defScope s_law) (by decide +kernel)) (fun _ _ _ _ _ => (pg_name (i := 6) sc_law.nd rfl (Or.inl rfl))) (fun _ _ _ _ _ => pts_nil) (fun _ _ _ _ _ => (pe_call (ok_law_bent_octets T) (hr.mono (by decide)) rfl T.g_law_bent_octets T.F_law_bent_octets.kp T.b_law_bent_octets .nil pass0 (pa_cons (pv 1) (pa_cons (pv 3) pa_nil)))))))
      (Evl.pss_cut (ps_set (i := 5) sc_law.nd rfl (Or.inl rfl) (pe_op op_cat (pv 5) (pe_lc (own := [("again", 6)]) (g := (gName 6)) (tt := tYes)  rfl sc_law.nd (pi_range1 rfl T.z_range (pa_cons pe_int pa_nil)) (blkOk_by (own := [("again", 6)]) (N := ["script", "pen", "turn", "octets", "answer", "some", "again", "seen", "due", "told", "odd", "good", "spot", "bent", "wrong"]) (sc := defScope s_law) (by decide +kernel)) (fun _ _ _ _ _ => (pg_name (i := 6) sc_law.nd rfl (Or.inl rfl))) (fun _ _ _ _ _ => pts_nil) (fun _ _ _ _ _ => (pe_call (ok_law_bent_octets T) (hr.mono (by decide)) rfl T.g_law_bent_octets T.F_law_bent_octets.kp T.b_law_bent_octets .nil pass0 (pa_cons (pv 1) (pa_cons (pv 4) pa_nil)))))))
      (Evl.pss_cut (ps_expr (pe_bm PySem.F.plainAttrs_list PySem.F.slot_list_append PySem.F.type_list_append mt_append (pv 5) (pa_cons (pe_op op_cat (pe_lst (pa_cons (pe_call (ok_law_take T) (hr.mono (by decide)) rfl T.g_law_take T.F_law_take.kp T.b_law_take .nil pass0 (pa_cons (pv 1) (pa_cons pe_int pa_nil))) pa_nil)) (pe_call (ok_law_one_of T) (hr.mono (by decide)) rfl T.g_law_one_of T.F_law_one_of.kp T.b_law_one_of .nil pass0 (pa_cons (pv 1) (pa_cons (pe_lst (pa_cons (pe_lst pa_nil) (pa_cons (pe_lst (pa_cons pe_int pa_nil)) (pa_cons (pe_lst (pa_cons pe_int pa_nil)) (pa_cons (pe_lst (pa_cons pe_int (pa_cons pe_int pa_nil))) (pa_cons (pe_lst (pa_cons pe_int (pa_cons pe_int pa_nil))) (pa_cons (pe_lst (pa_cons pe_int (pa_cons pe_int (pa_cons pe_int pa_nil)))) pa_nil))))))) pa_nil)))) pa_nil)))
      (Evl.pss_cut (ps_expr (pe_bm PySem.F.plainAttrs_list PySem.F.slot_list_append PySem.F.type_list_append mt_append (pv 5) (pa_cons (pe_ifExp (pt_cmpR op_eq (pv 2) pe_int (nomark _)) (pe_lst (pa_cons pe_int (pa_cons pe_int pa_nil))) (pe_lst (pa_cons (pe_op op_add (pe_op op_add pe_int pe_int) (pe_call (ok_law_take T) (hr.mono (by decide)) rfl T.g_law_take T.F_law_take.kp T.b_law_take .nil pass0 (pa_cons (pv 1) (pa_cons pe_int pa_nil)))) pa_nil))) pa_nil)))
      (Evl.pss_cut (ps_expr (pe_bm PySem.F.plainAttrs_list PySem.F.slot_list_append PySem.F.type_list_append mt_append (pv 5) (pa_cons (pe_op op_cat (pe_lst (pa_cons (pe_call (ok_law_one_of T) (hr.mono (by decide)) rfl T.g_law_one_of T.F_law_one_of.kp T.b_law_one_of .nil pass0 (pa_cons (pv 1) (pa_cons (pe_lst (pa_cons pe_int (pa_cons pe_int pa_nil))) pa_nil))) (pa_cons (pe_op op_add pe_int (pe_call (ok_law_take T) (hr.mono (by decide)) rfl T.g_law_take T.F_law_take.kp T.b_law_take .nil pass0 (pa_cons (pv 1) (pa_cons pe_int pa_nil)))) pa_nil))) (pe_op op_rep (pe_lst (pa_cons pe_int pa_nil)) (pe_call (ok_law_take T) (hr.mono (by decide)) rfl T.g_law_take T.F_law_take.kp T.b_law_take .nil pass0 (pa_cons (pv 1) (pa_cons pe_int pa_nil))))) pa_nil)))
      (pss_cons (ps_for PassesOwn.never rfl (pi_list (pv 5)) (pg_name (i := 3) sc_law.nd rfl (Or.inr rfl))
        (Evl.pss_cut (ps_set (i := 7) sc_law.nd rfl (Or.inl rfl) (pe_callB (call_reprV hgd hud) rfl T.z_repr boot_repr (pa_cons (pv 3) pa_nil)))
      (Evl.pss_cut (ps_set (i := 8) sc_law.nd rfl (Or.inl rfl) (pe_lst (pa_cons (pe_call (ok_law_whole T) (hr.mono (by decide)) rfl T.g_law_whole T.F_law_whole.kp T.b_law_whole .nil pass0 (pa_cons (pe_call (ok_law_read_instruction T) (hr.mono (by decide)) rfl T.g_law_read_instruction T.F_law_read_instruction.kp T.b_law_read_instruction .nil pass0 (pa_cons (pv 3) pa_nil)) (pa_cons (pv 3) pa_nil))) (pa_cons (pe_call (ok_law_whole T) (hr.mono (by decide)) rfl T.g_law_whole T.F_law_whole.kp T.b_law_whole .nil pass0 (pa_cons (pe_call (ok_law_read_answer T) (hr.mono (by decide)) rfl T.g_law_read_answer T.F_law_read_answer.kp T.b_law_read_answer .nil pass0 (pa_cons (pv 3) pa_nil)) (pa_cons (pv 3) pa_nil))) pa_nil))))
      (Evl.pss_cut (ps_set (i := 9) sc_law.nd rfl (Or.inl rfl) (pe_lst (pa_cons (pe_call (ok_law_told T) (hr.mono (by decide)) rfl T.g_law_told T.F_law_told.kp T.b_law_told .nil pass0 (pa_cons (pe_lam1 TBc hcc (List.mem_singleton.mpr rfl) huT) (pa_cons (pv 3) pa_nil))) pa_nil)))
      (Evl.pss_cut (ps_expr (pe_bm PySem.F.plainAttrs_list PySem.F.slot_list_append PySem.F.type_list_append mt_append (pv 9) (pa_cons (pe_call (ok_law_told T) (hr.mono (by decide)) rfl T.g_law_told T.F_law_told.kp T.b_law_told .nil pass0 (pa_cons (pe_lam1 TBc hcc (List.mem_singleton.mpr rfl) huT) (pa_cons (pv 3) pa_nil))) pa_nil)))
      (pss_one (ps_if (PW.pt (pw_or (pt_not (pt_val (pe_call (ok_law_same T) (hr.mono (by decide)) rfl T.g_law_same T.F_law_same.kp T.b_law_same .nil pass0 (pa_cons (pv 9) (pa_cons (pv 8) pa_nil))))) (pw_or1 (pt_cmpR op_ne (pe_callB (call_reprV hgd hud) rfl T.z_repr boot_repr (pa_cons (pv 3) pa_nil)) (pv 7) (nomark _))))) (pss_one (ps_ret pe_bl)) pss_nil)))))))
      (Evl.pss_cut (ps_set (i := 10) sc_law.nd rfl (Or.inl rfl) (pe_lst (pa_cons pe_non (pa_cons (pe_tup (pa_cons pe_int (pa_cons pe_int pa_nil))) (pa_cons (pe_lst (pa_cons pe_int pa_nil)) (pa_cons (pe_lst (pa_cons (pe_un un_neg pe_int) pa_nil)) (pa_cons (pe_lst (pa_cons pe_str pa_nil)) (pa_cons (pe_lst (pa_cons pe_bl pa_nil)) (pa_cons pe_dnewK (pa_cons pe_int (pa_cons pe_str (pa_cons (pe_lst (pa_cons pe_int (pa_cons pe_non pa_nil))) pa_nil))))))))))))
      (Evl.pss_cut (ps_set (i := 11) sc_law.nd rfl (Or.inl rfl) (pe_op op_cat (pe_call (ok_law_instruction_octets T) (hr.mono (by decide)) rfl T.g_law_instruction_octets T.F_law_instruction_octets.kp T.b_law_instruction_octets .nil pass0 (pa_cons (pe_call (ok_law_draw_instruction T) (hr.mono (by decide)) rfl T.g_law_draw_instruction T.F_law_draw_instruction.kp T.b_law_draw_instruction .nil pass0 (pa_cons (pv 1) pa_nil)) pa_nil)) (pv 4)))
      (Evl.pss_cut (ps_set (i := 12) sc_law.nd rfl (Or.inl rfl) (pe_call (ok_law_take T) (hr.mono (by decide)) rfl T.g_law_take T.F_law_take.kp T.b_law_take .nil pass0 (pa_cons (pv 1) (pa_cons (pe_op op_add (pe_callB call_len rfl T.z_len boot_len (pa_cons (pv 11) pa_nil)) pe_int) pa_nil))))
      (Evl.pss_cut (ps_set (i := 13) sc_law.nd rfl (Or.inl rfl) (pe_op op_cat (pe_op op_cat (pe_slice sl_list (pv 11) po_none (po_some (pv 12))) (pe_lst (pa_cons (pe_call (ok_law_one_of T) (hr.mono (by decide)) rfl T.g_law_one_of T.F_law_one_of.kp T.b_law_one_of .nil pass0 (pa_cons (pv 1) (pa_cons (pe_lst (pa_cons pe_int (pa_cons (pe_un un_neg pe_int) (pa_cons pe_str (pa_cons pe_bl (pa_cons pe_non (pa_cons (pe_lst (pa_cons pe_int pa_nil)) (pa_cons (pe_op op_pow pe_int pe_int) pa_nil)))))))) pa_nil))) pa_nil))) (pe_slice sl_list (pv 11) (po_some (pv 12)) po_none)))
      (Evl.pss_cut (ps_set (i := 13) sc_law.nd rfl (Or.inl rfl) (pe_call (ok_law_one_of T) (hr.mono (by decide)) rfl T.g_law_one_of T.F_law_one_of.kp T.b_law_one_of .nil pass0 (pa_cons (pv 1) (pa_cons (pe_lst (pa_cons (pv 13) (pa_cons (pe_op op_cat (pe_lst (pa_cons pe_int pa_nil)) (pv 13)) (pa_cons (pe_op op_cat (pe_lst (pa_cons pe_int pa_nil)) (pv 13)) (pa_cons (pe_op op_cat (pe_call (ok_law_bent_octets T) (hr.mono (by decide)) rfl T.g_law_bent_octets T.F_law_bent_octets.kp T.b_law_bent_octets .nil pass0 (pa_cons (pv 1) (pa_cons (pv 11) pa_nil))) (pe_lst (pa_cons pe_int pa_nil))) pa_nil))))) pa_nil))))
      (Evl.pss_cut (ps_set (i := 14) sc_law.nd rfl (Or.inl rfl) (pe_call (ok_law_one_of T) (hr.mono (by decide)) rfl T.g_law_one_of T.F_law_one_of.kp T.b_law_one_of .nil pass0 (pa_cons (pv 1) (pa_cons (pe_op op_cat (pv 10) (pe_op op_rep (pe_lst (pa_cons (pv 13) pa_nil)) pe_int)) pa_nil))))
      (Evl.pss_cut (ps_set (i := 9) sc_law.nd rfl (Or.inl rfl) (pe_lst (pa_cons (pe_call (ok_law_told T) (hr.mono (by decide)) rfl T.g_law_told T.F_law_told.kp T.b_law_told .nil pass0 (pa_cons (pe_lam1 TBc hcc (List.mem_singleton.mpr rfl) huT) (pa_cons (pv 14) pa_nil))) pa_nil)))
      (Evl.pss_cut (ps_expr (pe_bm PySem.F.plainAttrs_list PySem.F.slot_list_append PySem.F.type_list_append mt_append (pv 9) (pa_cons (pe_call (ok_law_told T) (hr.mono (by decide)) rfl T.g_law_told T.F_law_told.kp T.b_law_told .nil pass0 (pa_cons (pe_lam1 TBc hcc (List.mem_singleton.mpr rfl) huT) (pa_cons (pv 14) pa_nil))) pa_nil)))
      (pss_one (ps_if (pt_cmpR (op_neD hud) (pv 9) (pe_lst (pa_cons pe_str (pa_cons pe_str pa_nil))) (nomark _)) (pss_one (ps_ret pe_bl)) pss_nil))))))))))))))))))))
      (pss_one (ps_ret pe_bl)))), ?_⟩
    have t0 : NdefX.TabsN (TB8 P0) H := fun p hp => by rw [List.mem_singleton.mp hp]; exact NdefX.TabN.nil (hO _ (List.mem_singleton.mpr rfl))
    refine ⟨_, rfl, a, ns, rfl, hS, hl, fun p c H1 hp s1 P1 => ?_⟩
    have w1 : W8 P0 p c H1 0 := ⟨P1, t0.ext s1⟩
    refine ⟨_, rfl, by decide, by decide, ?_⟩
    refine for_range (lo := 0) (n := 10) (fun i σ H' => ∃ v2 v3 v4 v5 v6 v7 v8 v9 v10 v11 v12 v13 v14 : Option V, σ = [some (.ref a), some (.ref p), v2, v3, v4, v5, v6, v7, v8, v9, v10, v11, v12, v13, v14] ∧ W8 P0 p c H' (3000 * i)) ⟨_, _, _, _, _, _, _, _, _, _, _, _, _, rfl, w1⟩ ?_ ?_
    · rintro i σ H2 hi ⟨v2, v3, v4, v5, v6, v7, v8, v9, v10, v11, v12, v13, v14, rfl, W2⟩
      clear w1 t0 s1 P1
      -- octets
      refine ⟨fun σ' H' => ∃ (u2 u4 u5 u6 u7 u8 u9 u10 u11 u12 u13 u14 : Option V) (O : Addr), σ' = [some (.ref a), some (.ref p), u2, some (.ref O), u4, u5, u6, u7, u8, u9, u10, u11, u12, u13, u14] ∧ u2 = some (.int (i : Nat)) ∧ W8 P0 p c H' (3000 * i + 200) ∧ LO 90 (OffS [P0, p] H') O, ?_, ?_⟩
      · refine ⟨_, rfl, p, c, 3000 * i, rfl, W2.pen, by omega, fun one vi H3 g1 ok1 d3 => ?_⟩
        have W3 := W2.drew d3
        refine ⟨.ref one, vi, rfl, ⟨one, rfl, .inl (.inl g1)⟩, ok1, fun O H4 hO s4 gO => ?_⟩
        exact ⟨_, _, _, _, _, _, _, _, _, _, _, _, O, rfl, by simp, W3.same s4, _, off8_n (W3.off hO) gO, ins_oct ok1, ins_len2 ok1⟩
      clear W2 v3 v4 v5 v6 v7 v8 v9 v10 v11 v12 v13 v14 H2
      rintro σ H2 ⟨u2, u4, u5, u6, u7, u8, u9, u10, u11, u12, u13, u14, O, rfl, rfl, W2, LO2⟩
      -- answer
      refine ⟨fun σ' H' => ∃ (u5 u6 u7 u8 u9 u10 u11 u12 u13 u14 : Option V) (O N : Addr), σ' = [some (.ref a), some (.ref p), some (.int (i : Nat)), some (.ref O), some (.ref N), u5, u6, u7, u8, u9, u10, u11, u12, u13, u14] ∧ W8 P0 p c H' (3000 * i + 400) ∧ LO 90 (OffS [P0, p] H') O ∧ LO 3 (OffS [P0, p] H') N, ?_, ?_⟩
      · refine ⟨_, rfl, p, c, _, rfl, W2.pen, by omega, fun ans va H3 g1 ok1 d3 => ?_⟩
        have W3 := W2.drew d3
        refine ⟨.ref ans, va, rfl, ⟨ans, rfl, .inl (.inl g1)⟩, ok1, fun N H4 hN s4 gN => ?_⟩
        exact ⟨_, _, _, _, _, _, _, _, _, _, O, N, rfl, W3.same s4, (LO2.keep (off8_d d3)).keep s4.off, _, off8_n (W3.off hN) gN, ans_oct ok1, ans_len2 ok1⟩
      clear W2 u4 u5 u6 u7 u8 u9 u10 u11 u12 u13 u14 H2 LO2
      rintro σ H2 ⟨u5, u6, u7, u8, u9, u10, u11, u12, u13, u14, O, N, rfl, W2, LO2, LN2⟩
      -- some
      refine ⟨fun σ' H' => ∃ (u6 u7 u8 u9 u10 u11 u12 u13 u14 : Option V) (O N S : Addr) (xs : List V), σ' = [some (.ref a), some (.ref p), some (.int (i : Nat)), some (.ref O), some (.ref N), some (.ref S), u6, u7, u8, u9, u10, u11, u12, u13, u14] ∧ W8 P0 p c H' (3000 * i + 400) ∧ LO 90 (OffS [P0, p] H') O ∧ LO 3 (OffS [P0, p] H') N ∧ OffS [P0, p] H' S = some (.lst xs) ∧ AllOL (OffS [P0, p] H') xs ∧ 1 ≤ xs.length ∧ xs.length ≤ 4, ?_, ?_⟩
      · obtain ⟨os, gO, hos, lO⟩ := LO2
        obtain ⟨as_, gN, has, lN⟩ := LN2
        refine ⟨_, rfl, _, rfl, _, rfl, _, rfl, O, N, _, _, rfl, rfl, (off_get gO).2, (off_get gN).2, by rw [List.length_map, List.length_map, sizeLine_eq]; omega, fun M hM => ?_⟩
        have WM := W2.new8 (o := .lst (os.map V.int ++ as_.map V.int)) hM
        have sM := (Same.new (o := .lst (os.map V.int ++ as_.map V.int)) hM).off (S := [P0, p])
        have lM : LO 93 (OffS [P0, p] (upd H2 M (.lst (os.map V.int ++ as_.map V.int)))) M := ⟨os ++ as_, by rw [off8_n (W2.off hM) upd_same, List.map_append], octs_app hos has, by rw [List.length_append]; omega⟩
        have lO3 : LO 90 _ O := LO.keep ⟨os, gO, hos, lO⟩ sM
        have lN3 : LO 3 _ N := LO.keep ⟨as_, gN, has, lN⟩ sM
        clear gO gN hos has lO lN
        generalize upd H2 M (.lst (os.map V.int ++ as_.map V.int)) = H3 at WM sM lM lO3 lN3 ⊢
        refine ⟨by show 0 ≤ sizeLine; decide, fun Z hZ => ?_⟩
        have WZ := WM.new8 (o := .lst []) hZ
        have sZ := (Same.new (o := .lst []) hZ).off (S := [P0, p])
        have lZ : LO 0 (OffS [P0, p] (upd H3 Z (.lst []))) Z := ⟨[], off8_n (WM.off hZ) upd_same, fun x hx => (nomatch hx), Nat.le_refl _⟩
        have lM := lM.keep sZ
        have lO3 := lO3.keep sZ
        have lN3 := lN3.keep sZ
        generalize upd H3 Z (.lst []) = H4 at WZ lZ lM lO3 lN3 ⊢
        refine ⟨by show 4 ≤ sizeLine; decide, fun S hS => ?_⟩
        have sS := (Same.new (o := .lst [.ref O, .ref N, .ref M, .ref Z]) hS).off (S := [P0, p])
        exact ⟨_, _, _, _, _, _, _, _, _, O, N, S, _, rfl, WZ.new8 hS, lO3.keep sS, lN3.keep sS, off8_n (WZ.off hS) upd_same, (AllOL.cons (lO3.ol (by decide)) (.cons (lN3.ol (by decide)) (.cons (lM.ol (by decide)) (.cons (lZ.ol (by decide)) .nil)))).keep sS, by show 1 ≤ 4; decide, Nat.le_refl _⟩
      clear W2 u5 u6 u7 u8 u9 u10 u11 u12 u13 u14 H2 LO2 LN2 O N
      rintro σ H2 ⟨u6, u7, u8, u9, u10, u11, u12, u13, u14, O, N, S, xs, rfl, W2, LO2, LN2, gS2, AX2, ll2, lx2⟩
      -- some + octets bent
      refine ⟨fun σ' H' => ∃ (u6 u7 u8 u9 u10 u11 u12 u13 u14 : Option V) (O N S : Addr) (xs : List V), σ' = [some (.ref a), some (.ref p), some (.int (i : Nat)), some (.ref O), some (.ref N), some (.ref S), u6, u7, u8, u9, u10, u11, u12, u13, u14] ∧ W8 P0 p c H' (3000 * i + 600) ∧ LO 90 (OffS [P0, p] H') O ∧ LO 3 (OffS [P0, p] H') N ∧ OffS [P0, p] H' S = some (.lst xs) ∧ AllOL (OffS [P0, p] H') xs ∧ 1 ≤ xs.length ∧ xs.length ≤ 10, ?_, ?_⟩
      · refine ⟨_, rfl, _, rfl, by decide, by decide, fun D hD => ?_⟩
        refine lc_gen walk_range (Lc8 P0 p c D H2 (3000 * i + 400)) (by omega) (Lc8.start W2.pen hD) (fun _ _ _ _ => True.intro) ?_ ?_
        · rintro k zs z H' H'' Q' Z hk hlk gD I ⟨rfl, rfl⟩ q'
          refine ⟨rfl, yesI ?_⟩
          have WI := W2.drew I.drew
          obtain ⟨os, gO, hos, lO⟩ := LO2.keep (off8_d (P0 := P0) I.drew)
          refine ⟨_, rfl, _, rfl, p, c, _, O, os, rfl, off8_pp gO, I.drew.pen, (off_get gO).2, by omega, hos, by omega, fun b bs H4 hb gb lb hbs d4 => ?_⟩
          have nb : b ∉ [D, P0, p] := fun m => by
            rcases List.mem_cons.mp m with e | m
            · rw [e, gD] at hb; cases hb
            · exact WI.off hb m
          obtain ⟨e1, e2⟩ := I.step W2.pen hD gD ⟨b, bs, rfl, by rw [off_ne nb]; exact gb, hbs, by omega⟩ d4
          exact q' _ H4 e1 e2
        · rintro zs H3 hlz gD I
          have W3 := W2.drew I.drew
          have o3 := off8_d (P0 := P0) I.drew
          have zD : OffS [P0, p] H3 D = some (.lst zs) := off8_n (fun m => (W2.off hD) m) gD
          refine ⟨S, D, _, _, rfl, rfl, (off_get (o3 _ _ gS2)).2, gD, by rw [hlz, sizeLine_eq]; omega, fun M hM => ?_⟩
          have sM := (Same.new (o := .lst (xs ++ zs)) hM).off (S := [P0, p])
          exact ⟨_, _, _, _, _, _, _, _, _, O, N, M, _, rfl, (W3.new8 hM).mono (by omega), (LO2.keep o3).keep sM, (LN2.keep o3).keep sM, off8_n (W3.off hM) upd_same, ((AX2.keep o3).app (I.all.keep off_less)).keep sM, by rw [List.length_append]; omega, by rw [List.length_append]; omega⟩
      clear W2 u6 u7 u8 u9 u10 u11 u12 u13 u14 H2 LO2 LN2 gS2 AX2 ll2 lx2 xs O N S
      rintro σ H2 ⟨u6, u7, u8, u9, u10, u11, u12, u13, u14, O, N, S, xs, rfl, W2, LO2, LN2, gS2, AX2, ll2, lx2⟩
      -- some + answer bent
      refine ⟨fun σ' H' => ∃ (u6 u7 u8 u9 u10 u11 u12 u13 u14 : Option V) (O N S : Addr) (xs : List V), σ' = [some (.ref a), some (.ref p), some (.int (i : Nat)), some (.ref O), some (.ref N), some (.ref S), u6, u7, u8, u9, u10, u11, u12, u13, u14] ∧ W8 P0 p c H' (3000 * i + 700) ∧ LO 3 (OffS [P0, p] H') N ∧ OffS [P0, p] H' S = some (.lst xs) ∧ AllOL (OffS [P0, p] H') xs ∧ 1 ≤ xs.length ∧ xs.length ≤ 13, ?_, ?_⟩
      · refine ⟨_, rfl, _, rfl, by decide, by decide, fun D hD => ?_⟩
        refine lc_gen walk_range (Lc8 P0 p c D H2 (3000 * i + 600)) (by omega) (Lc8.start W2.pen hD) (fun _ _ _ _ => True.intro) ?_ ?_
        · rintro k zs z H' H'' Q' Z hk hlk gD I ⟨rfl, rfl⟩ q'
          refine ⟨rfl, yesI ?_⟩
          have WI := W2.drew I.drew
          obtain ⟨os, gO, hos, lO⟩ := LN2.keep (off8_d (P0 := P0) I.drew)
          refine ⟨_, rfl, _, rfl, p, c, _, N, os, rfl, off8_pp gO, I.drew.pen, (off_get gO).2, by omega, hos, by omega, fun b bs H4 hb gb lb hbs d4 => ?_⟩
          have nb : b ∉ [D, P0, p] := fun m => by
            rcases List.mem_cons.mp m with e | m
            · rw [e, gD] at hb; cases hb
            · exact WI.off hb m
          obtain ⟨e1, e2⟩ := I.step W2.pen hD gD ⟨b, bs, rfl, by rw [off_ne nb]; exact gb, hbs, by omega⟩ d4
          exact q' _ H4 e1 e2
        · rintro zs H3 hlz gD I
          have W3 := W2.drew I.drew
          have o3 := off8_d (P0 := P0) I.drew
          have zD : OffS [P0, p] H3 D = some (.lst zs) := off8_n (fun m => (W2.off hD) m) gD
          refine ⟨S, D, _, _, rfl, rfl, (off_get (o3 _ _ gS2)).2, gD, by rw [hlz, sizeLine_eq]; omega, fun M hM => ?_⟩
          have sM := (Same.new (o := .lst (xs ++ zs)) hM).off (S := [P0, p])
          exact ⟨_, _, _, _, _, _, _, _, _, O, N, M, _, rfl, (W3.new8 hM).mono (by omega), (LN2.keep o3).keep sM, off8_n (W3.off hM) upd_same, ((AX2.keep o3).app (I.all.keep off_less)).keep sM, by rw [List.length_append]; omega, by rw [List.length_append]; omega⟩
      clear W2 u6 u7 u8 u9 u10 u11 u12 u13 u14 H2 LO2 LN2 gS2 AX2 ll2 lx2 xs O N S
      rintro σ H2 ⟨u6, u7, u8, u9, u10, u11, u12, u13, u14, O, N, S, xs, rfl, W2, LN2, gS2, AX2, ll2, lx2⟩
      -- some.append(drawn)
      refine ⟨fun σ' H' => ∃ (u6 u7 u8 u9 u10 u11 u12 u13 u14 : Option V) (O N S : Addr) (xs : List V), σ' = [some (.ref a), some (.ref p), some (.int (i : Nat)), some (.ref O), some (.ref N), some (.ref S), u6, u7, u8, u9, u10, u11, u12, u13, u14] ∧ W8 P0 p c H' (3000 * i + 800) ∧ LO 3 (OffS [P0, p] H') N ∧ OffS [P0, p] H' S = some (.lst xs) ∧ AllOL (OffS [P0, p] H') xs ∧ 1 ≤ xs.length ∧ xs.length ≤ 14, ?_, ?_⟩
      · refine ⟨_, rfl, .inl ⟨rfl, _, SqL.of (off_get gS2).2⟩, ?_⟩
        refine ⟨_, rfl, p, c, _, 256, rfl, W2.pen, by decide, by decide, by omega, fun r H3 h0 h1 d3 => ?_⟩
        have W3 := W2.drew d3
        have o3 := off8_d (P0 := P0) d3
        replace LN2 := LN2.keep o3
        replace AX2 := AX2.keep o3
        replace gS2 := o3 _ _ gS2
        refine ⟨by show 1 ≤ sizeLine; decide, fun L hL => ?_⟩
        have W4 := W3.new8 (o := .lst [.int r]) hL
        have s4 := (Same.new (o := .lst [.int r]) hL).off (S := [P0, p])
        have lL : LO 1 _ L := lo_lay (vs := [.int r]) [r] W3 hL rfl (octs_one ⟨h0, h1⟩) (Nat.le_refl _)
        replace LN2 := LN2.keep s4
        replace AX2 := AX2.keep s4
        replace gS2 := s4 _ _ gS2
        generalize upd H3 L (.lst [.int r]) = H4 at W4 s4 lL LN2 AX2 gS2 ⊢
        refine ⟨_, rfl, ?_⟩
        refine ⟨by show 0 ≤ sizeLine; decide, fun M0 hM0 => ?_⟩
        have W5 := W4.new8 (o := .lst []) hM0
        have s5 := (Same.new (o := .lst []) hM0).off (S := [P0, p])
        have lM0 : LO 0 _ M0 := lo_lay (vs := []) [] W4 hM0 rfl (octs_lit (by decide)) (Nat.le_refl _)
        replace LN2 := LN2.keep s5
        replace AX2 := AX2.keep s5
        replace gS2 := s5 _ _ gS2
        replace lL := lL.keep s5
        generalize upd H4 M0 (.lst []) = H5 at W5 s5 lM0 LN2 AX2 gS2 lL ⊢
        refine ⟨by show 1 ≤ sizeLine; decide, fun M1 hM1 => ?_⟩
        have W6 := W5.new8 (o := .lst [.int 255]) hM1
        have s6 := (Same.new (o := .lst [.int 255]) hM1).off (S := [P0, p])
        have lM1 : LO 1 _ M1 := lo_lay (vs := [.int 255]) [255] W5 hM1 rfl (octs_lit (by decide)) (Nat.le_refl _)
        replace LN2 := LN2.keep s6
        replace AX2 := AX2.keep s6
        replace gS2 := s6 _ _ gS2
        replace lL := lL.keep s6
        replace lM0 := lM0.keep s6
        generalize upd H5 M1 (.lst [.int 255]) = H6 at W6 s6 lM1 LN2 AX2 gS2 lL lM0 ⊢
        refine ⟨by show 1 ≤ sizeLine; decide, fun M2 hM2 => ?_⟩
        have W7 := W6.new8 (o := .lst [.int 0]) hM2
        have s7 := (Same.new (o := .lst [.int 0]) hM2).off (S := [P0, p])
        have lM2 : LO 1 _ M2 := lo_lay (vs := [.int 0]) [0] W6 hM2 rfl (octs_lit (by decide)) (Nat.le_refl _)
        replace LN2 := LN2.keep s7
        replace AX2 := AX2.keep s7
        replace gS2 := s7 _ _ gS2
        replace lL := lL.keep s7
        replace lM0 := lM0.keep s7
        replace lM1 := lM1.keep s7
        generalize upd H6 M2 (.lst [.int 0]) = H7 at W7 s7 lM2 LN2 AX2 gS2 lL lM0 lM1 ⊢
        refine ⟨by show 2 ≤ sizeLine; decide, fun M3 hM3 => ?_⟩
        have W8 := W7.new8 (o := .lst [.int 128, .int 0]) hM3
        have s8 := (Same.new (o := .lst [.int 128, .int 0]) hM3).off (S := [P0, p])
        have lM3 : LO 2 _ M3 := lo_lay (vs := [.int 128, .int 0]) [128, 0] W7 hM3 rfl (octs_lit (by decide)) (Nat.le_refl _)
        replace LN2 := LN2.keep s8
        replace AX2 := AX2.keep s8
        replace gS2 := s8 _ _ gS2
        replace lL := lL.keep s8
        replace lM0 := lM0.keep s8
        replace lM1 := lM1.keep s8
        replace lM2 := lM2.keep s8
        generalize upd H7 M3 (.lst [.int 128, .int 0]) = H8 at W8 s8 lM3 LN2 AX2 gS2 lL lM0 lM1 lM2 ⊢
        refine ⟨by show 2 ≤ sizeLine; decide, fun M4 hM4 => ?_⟩
        have W9 := W8.new8 (o := .lst [.int 200, .int 77]) hM4
        have s9 := (Same.new (o := .lst [.int 200, .int 77]) hM4).off (S := [P0, p])
        have lM4 : LO 2 _ M4 := lo_lay (vs := [.int 200, .int 77]) [200, 77] W8 hM4 rfl (octs_lit (by decide)) (Nat.le_refl _)
        replace LN2 := LN2.keep s9
        replace AX2 := AX2.keep s9
        replace gS2 := s9 _ _ gS2
        replace lL := lL.keep s9
        replace lM0 := lM0.keep s9
        replace lM1 := lM1.keep s9
        replace lM2 := lM2.keep s9
        replace lM3 := lM3.keep s9
        generalize upd H8 M4 (.lst [.int 200, .int 77]) = H9 at W9 s9 lM4 LN2 AX2 gS2 lL lM0 lM1 lM2 lM3 ⊢
        refine ⟨by show 3 ≤ sizeLine; decide, fun M5 hM5 => ?_⟩
        have W10 := W9.new8 (o := .lst [.int 1, .int 97, .int 0]) hM5
        have s10 := (Same.new (o := .lst [.int 1, .int 97, .int 0]) hM5).off (S := [P0, p])
        have lM5 : LO 3 _ M5 := lo_lay (vs := [.int 1, .int 97, .int 0]) [1, 97, 0] W9 hM5 rfl (octs_lit (by decide)) (Nat.le_refl _)
        replace LN2 := LN2.keep s10
        replace AX2 := AX2.keep s10
        replace gS2 := s10 _ _ gS2
        replace lL := lL.keep s10
        replace lM0 := lM0.keep s10
        replace lM1 := lM1.keep s10
        replace lM2 := lM2.keep s10
        replace lM3 := lM3.keep s10
        replace lM4 := lM4.keep s10
        generalize upd H9 M5 (.lst [.int 1, .int 97, .int 0]) = H10 at W10 s10 lM5 LN2 AX2 gS2 lL lM0 lM1 lM2 lM3 lM4 ⊢
        refine ⟨by show 6 ≤ sizeLine; decide, fun Y hY => ?_⟩
        have W11 := W10.new8 (o := .lst [.ref M0, .ref M1, .ref M2, .ref M3, .ref M4, .ref M5]) hY
        have s11 := (Same.new (o := .lst [.ref M0, .ref M1, .ref M2, .ref M3, .ref M4, .ref M5]) hY).off (S := [P0, p])
        have gY : OffS [P0, p] (upd H10 Y (.lst [.ref M0, .ref M1, .ref M2, .ref M3, .ref M4, .ref M5])) Y = some (.lst [.ref M0, .ref M1, .ref M2, .ref M3, .ref M4, .ref M5]) := off8_n (W10.off hY) upd_same
        replace LN2 := LN2.keep s11
        replace AX2 := AX2.keep s11
        replace gS2 := s11 _ _ gS2
        replace lL := lL.keep s11
        replace lM0 := lM0.keep s11
        replace lM1 := lM1.keep s11
        replace lM2 := lM2.keep s11
        replace lM3 := lM3.keep s11
        replace lM4 := lM4.keep s11
        replace lM5 := lM5.keep s11
        generalize upd H10 Y (.lst [.ref M0, .ref M1, .ref M2, .ref M3, .ref M4, .ref M5]) = H11 at W11 s11 gY LN2 AX2 gS2 lL lM0 lM1 lM2 lM3 lM4 lM5 ⊢
        refine ⟨p, c, Y, _, _, rfl, W11.pen, SqL.of (off_get gY).2, off8_pp gY, by simp, by show 6 ≤ 1000; decide, by omega, fun x H12 hx d12 => ?_⟩
        have hx : ∃ M, x = .ref M ∧ LO 3 (OffS [P0, p] H11) M := by
          simp only [List.mem_cons, List.not_mem_nil, or_false] at hx
          rcases hx with rfl | rfl | rfl | rfl | rfl | rfl
          · exact ⟨_, rfl, lM0.mono (by decide)⟩
          · exact ⟨_, rfl, lM1.mono (by decide)⟩
          · exact ⟨_, rfl, lM2.mono (by decide)⟩
          · exact ⟨_, rfl, lM3.mono (by decide)⟩
          · exact ⟨_, rfl, lM4.mono (by decide)⟩
          · exact ⟨_, rfl, lM5.mono (by decide)⟩
        obtain ⟨M, rfl, lM⟩ := hx
        have W12 := W11.drew d12
        have o12 := off8_d (P0 := P0) d12
        obtain ⟨os1, gL, ho1, hl1⟩ := lL.keep o12
        obtain ⟨os2, gM, ho2, hl2⟩ := lM.keep o12
        refine ⟨L, M, _, _, rfl, rfl, (off_get gL).2, (off_get gM).2, by rw [List.length_map, List.length_map, sizeLine_eq]; omega, fun Z hZ => ?_⟩
        have W13 := W12.new8 (o := .lst (os1.map V.int ++ os2.map V.int)) hZ
        have s13 := (Same.new (o := .lst (os1.map V.int ++ os2.map V.int)) hZ).off (S := [P0, p])
        have lZ : LO 4 _ Z := lo_lay (os1 ++ os2) W12 hZ (List.map_append).symm (octs_app ho1 ho2) (by rw [List.length_append]; omega)
        have LN := (LN2.keep o12).keep s13
        have AX := (AX2.keep o12).keep s13
        have gS := s13 _ _ (o12 _ _ gS2)
        generalize upd H12 Z (.lst (os1.map V.int ++ os2.map V.int)) = H13 at W13 lZ LN AX gS ⊢
        refine ⟨S, _, _, rfl, rfl, (off_get gS).2, by rw [sizeLine_eq]; omega, ?_⟩
        have nx : xs ≠ [] := fun z => by rw [z] at ll2; exact absurd ll2 (by decide)
        obtain ⟨WE, gE, AE, kp⟩ := W13.put gS AX nx lZ (by decide)
        exact ⟨_, _, _, _, _, _, _, _, _, O, N, S, _, rfl, WE.mono (by omega), kp _ _ LN, gE, AE, by rw [List.length_append]; omega, by rw [List.length_append]; show xs.length + 1 ≤ 14; omega⟩
      clear W2 u6 u7 u8 u9 u10 u11 u12 u13 u14 H2 LN2 gS2 AX2 ll2 lx2 xs O N S
      rintro σ H2 ⟨u6, u7, u8, u9, u10, u11, u12, u13, u14, O, N, S, xs, rfl, W2, LN2, gS2, AX2, ll2, lx2⟩
      -- some.append(the first name)
      refine ⟨fun σ' H' => ∃ (u6 u7 u8 u9 u10 u11 u12 u13 u14 : Option V) (O N S : Addr) (xs : List V), σ' = [some (.ref a), some (.ref p), some (.int (i : Nat)), some (.ref O), some (.ref N), some (.ref S), u6, u7, u8, u9, u10, u11, u12, u13, u14] ∧ W8 P0 p c H' (3000 * i + 900) ∧ LO 3 (OffS [P0, p] H') N ∧ OffS [P0, p] H' S = some (.lst xs) ∧ AllOL (OffS [P0, p] H') xs ∧ 1 ≤ xs.length ∧ xs.length ≤ 15, ?_, ?_⟩
      · have fin : ∀ (H' : Hp) (Z : Addr), W8 P0 p c H' (3000 * i + 900) → Same (OffS [P0, p] H2) (OffS [P0, p] H') → LO 3 (OffS [P0, p] H') Z → W8 P0 p c (upd H' S (.lst (xs ++ [.ref Z]))) (3000 * i + 900) ∧ LO 3 (OffS [P0, p] (upd H' S (.lst (xs ++ [.ref Z])))) N ∧ (OffS [P0, p] (upd H' S (.lst (xs ++ [.ref Z])))) S = some (.lst (xs ++ [.ref Z])) ∧ AllOL (OffS [P0, p] (upd H' S (.lst (xs ++ [.ref Z])))) (xs ++ [.ref Z]) ∧ 1 ≤ (xs ++ [V.ref Z]).length ∧ (xs ++ [V.ref Z]).length ≤ 15 := fun H' Z WZ sZ lZ => by
          have nx : xs ≠ [] := fun z => by rw [z] at ll2; exact absurd ll2 (by decide)
          obtain ⟨WE, gE, AE, kp⟩ := WZ.put (sZ _ _ gS2) (AX2.keep sZ) nx lZ (by decide)
          exact ⟨WE, kp _ _ (LN2.keep sZ), gE, AE, by rw [List.length_append]; omega, by rw [List.length_append]; show xs.length + 1 ≤ 15; omega⟩
        refine ⟨_, rfl, .inl ⟨rfl, _, SqL.of (off_get gS2).2⟩, _, rfl, rfl, _, rfl, ifb (fun _ => ?_) (fun _ => ?_)⟩
        · refine ⟨by show 2 ≤ sizeLine; decide, fun Z hZ => ?_⟩
          have s3 := (Same.new (o := .lst [.int 95, .int 0]) hZ).off (S := [P0, p])
          have lZ : LO 2 _ Z := lo_lay (vs := [.int 95, .int 0]) [95, 0] W2 hZ rfl (octs_lit (by decide)) (Nat.le_refl _)
          obtain ⟨f1, f2, f3, f4, f5, f6⟩ := fin _ Z ((W2.new8 hZ).mono (by omega)) s3 (lZ.mono (by decide))
          exact ⟨S, _, _, rfl, rfl, (off_get (s3 _ _ gS2)).2, by rw [sizeLine_eq]; omega, ⟨_, _, _, _, _, _, _, _, _, O, N, S, _, rfl, f1, f2, f3, f4, f5, f6⟩⟩
        · refine ⟨_, _, rfl, rfl, _, rfl, p, c, _, 11, rfl, W2.pen, by decide, by decide, by omega, fun r H3 h0 h1 d3 => ?_⟩
          have W3 := W2.drew d3
          have o3 := off8_d (P0 := P0) d3
          refine ⟨_, _, rfl, rfl, by show 1 ≤ sizeLine; decide, fun Z hZ => ?_⟩
          have s4 := (Same.new (o := .lst [.int (64 + 21 + r)]) hZ).off (S := [P0, p])
          have lZ : LO 1 _ Z := lo_lay (vs := [.int (64 + 21 + r)]) [64 + 21 + r] W3 hZ rfl (octs_one (by omega)) (Nat.le_refl _)
          obtain ⟨f1, f2, f3, f4, f5, f6⟩ := fin _ Z ((W3.new8 hZ).mono (by omega)) (o3.trans s4) (lZ.mono (by decide))
          exact ⟨S, _, _, rfl, rfl, (off_get (s4 _ _ (o3 _ _ gS2))).2, by rw [sizeLine_eq]; omega, ⟨_, _, _, _, _, _, _, _, _, O, N, S, _, rfl, f1, f2, f3, f4, f5, f6⟩⟩
      clear W2 u6 u7 u8 u9 u10 u11 u12 u13 u14 H2 LN2 gS2 AX2 ll2 lx2 xs O N S
      rintro σ H2 ⟨u6, u7, u8, u9, u10, u11, u12, u13, u14, O, N, S, xs, rfl, W2, LN2, gS2, AX2, ll2, lx2⟩
      -- some.append(long)
      refine ⟨fun σ' H' => ∃ (u6 u7 u8 u9 u10 u11 u12 u13 u14 : Option V) (O N S : Addr) (xs : List V), σ' = [some (.ref a), some (.ref p), some (.int (i : Nat)), some (.ref O), some (.ref N), some (.ref S), u6, u7, u8, u9, u10, u11, u12, u13, u14] ∧ W8 P0 p c H' (3000 * i + 1000) ∧ LO 3 (OffS [P0, p] H') N ∧ OffS [P0, p] H' S = some (.lst xs) ∧ AllOL (OffS [P0, p] H') xs ∧ xs.length ≤ 16, ?_, ?_⟩
      · have fin : ∀ (H' : Hp) (Z : Addr), W8 P0 p c H' (3000 * i + 1000) → Same (OffS [P0, p] H2) (OffS [P0, p] H') → LO 4 (OffS [P0, p] H') Z → W8 P0 p c (upd H' S (.lst (xs ++ [.ref Z]))) (3000 * i + 1000) ∧ LO 3 (OffS [P0, p] (upd H' S (.lst (xs ++ [.ref Z])))) N ∧ (OffS [P0, p] (upd H' S (.lst (xs ++ [.ref Z])))) S = some (.lst (xs ++ [.ref Z])) ∧ AllOL (OffS [P0, p] (upd H' S (.lst (xs ++ [.ref Z])))) (xs ++ [.ref Z]) ∧ (xs ++ [V.ref Z]).length ≤ 16 := fun H' Z WZ sZ lZ => by
          have nx : xs ≠ [] := fun z => by rw [z] at ll2; exact absurd ll2 (by decide)
          obtain ⟨WE, gE, AE, kp⟩ := WZ.put (sZ _ _ gS2) (AX2.keep sZ) nx lZ (by decide)
          exact ⟨WE, kp _ _ (LN2.keep sZ), gE, AE, by rw [List.length_append]; show xs.length + 1 ≤ 16; omega⟩
        refine ⟨_, rfl, .inl ⟨rfl, _, SqL.of (off_get gS2).2⟩, _, rfl, by show 2 ≤ sizeLine; decide, fun K1 hK1 => ?_⟩
        have W3 := W2.new8 (o := .lst [.int 192, .int 130]) hK1
        have s3 := (Same.new (o := .lst [.int 192, .int 130]) hK1).off (S := [P0, p])
        have gK : OffS [P0, p] (upd H2 K1 (.lst [.int 192, .int 130])) K1 = some (.lst [.int 192, .int 130]) := off8_n (W2.off hK1) upd_same
        generalize upd H2 K1 (.lst [.int 192, .int 130]) = H3 at W3 s3 gK ⊢
        refine ⟨p, c, K1, _, _, rfl, W3.pen, SqL.of (off_get gK).2, off8_pp gK, by simp, by show 2 ≤ 1000; decide, by omega, fun x H4 hx d4 => ?_⟩
        have hx : ∃ m : Int, x = .int m ∧ 0 ≤ m ∧ m < 256 := by
          simp only [List.mem_cons, List.not_mem_nil, or_false] at hx
          rcases hx with rfl | rfl
          · exact ⟨_, rfl, by decide, by decide⟩
          · exact ⟨_, rfl, by decide, by decide⟩
        obtain ⟨m, rfl, m0, m1⟩ := hx
        have W4 := W3.drew d4
        have o4 := s3.trans (off8_d (P0 := P0) d4)
        refine ⟨_, rfl, p, c, _, 42, rfl, W4.pen, by decide, by decide, by omega, fun r H5 h0 h1 d5 => ?_⟩
        have W5 := W4.drew d5
        have o5 := o4.trans (off8_d (P0 := P0) d5)
        refine ⟨_, _, rfl, rfl, by show 2 ≤ sizeLine; decide, fun L hL => ?_⟩
        have W6 := W5.new8 (o := .lst [.int m, .int (128 + r)]) hL
        have o6 := o5.trans (Same.new (o := .lst [.int m, .int (128 + r)]) hL).off
        have lL : LO 2 _ L := lo_lay (vs := [.int m, .int (128 + r)]) [m, 128 + r] W5 hL rfl (fun y hy => by
          simp only [List.mem_cons, List.not_mem_nil, or_false] at hy
          rcases hy with rfl | rfl <;> omega) (Nat.le_refl _)
        generalize upd H5 L (.lst [.int m, .int (128 + r)]) = H6 at W6 o6 lL ⊢
        refine ⟨by show 1 ≤ sizeLine; decide, fun L1 hL1 => ?_⟩
        have W7 := W6.new8 (o := .lst [.int 97]) hL1
        have s7 := (Same.new (o := .lst [.int 97]) hL1).off (S := [P0, p])
        have o7 := o6.trans s7
        have gL1 : OffS [P0, p] (upd H6 L1 (.lst [.int 97])) L1 = some (.lst [.int 97]) := off8_n (W6.off hL1) upd_same
        replace lL := lL.keep s7
        generalize upd H6 L1 (.lst [.int 97]) = H7 at W7 o7 lL gL1 ⊢
        refine ⟨_, rfl, p, c, _, 3, rfl, W7.pen, by decide, by decide, by omega, fun n H8 n0 n1 d8 => ?_⟩
        have W8 := W7.drew d8
        have s8 := off8_d (P0 := P0) d8
        have o8 := o7.trans s8
        replace lL := lL.keep s8
        replace gL1 := s8 _ _ gL1
        refine ⟨L1, _, _, rfl, rfl, (off_get gL1).2, by omega, by omega, by show 1 * n.toNat ≤ sizeLine; rw [sizeLine_eq]; omega, fun L2 hL2 => ?_⟩
        have e9 : (List.replicate n.toNat [V.int 97]).flatten = (List.replicate n.toNat 97).map V.int := by
          generalize n.toNat = mm
          induction mm with
          | zero => rfl
          | succ j ih => rw [List.replicate_succ, List.flatten_cons, ih, List.replicate_succ, List.map_cons]; rfl
        rw [e9]
        have W9 := W8.new8 (o := .lst ((List.replicate n.toNat 97).map V.int)) hL2
        have s9 := (Same.new (o := .lst ((List.replicate n.toNat 97).map V.int)) hL2).off (S := [P0, p])
        have o9 := o8.trans s9
        have lL2 : LO 2 _ L2 := lo_lay (List.replicate n.toNat 97) W8 hL2 rfl (fun x hx => by rw [(List.mem_replicate.mp hx).2]; decide) (by rw [List.length_replicate]; omega)
        replace lL := lL.keep s9
        generalize upd H8 L2 (.lst ((List.replicate n.toNat 97).map V.int)) = H9 at W9 o9 lL lL2 ⊢
        obtain ⟨os1, g1, ho1, hl1⟩ := lL
        obtain ⟨os2, g2, ho2, hl2⟩ := lL2
        refine ⟨L, L2, _, _, rfl, rfl, (off_get g1).2, (off_get g2).2, by rw [List.length_map, List.length_map, sizeLine_eq]; omega, fun Z hZ => ?_⟩
        have s10 := (Same.new (o := .lst (os1.map V.int ++ os2.map V.int)) hZ).off (S := [P0, p])
        have lZ : LO 4 _ Z := lo_lay (os1 ++ os2) W9 hZ (List.map_append).symm (octs_app ho1 ho2) (by rw [List.length_append]; omega)
        obtain ⟨f1, f2, f3, f4, f5⟩ := fin _ Z ((W9.new8 hZ).mono (by omega)) (o9.trans s10) lZ
        exact ⟨S, _, _, rfl, rfl, (off_get (s10 _ _ (o9 _ _ gS2))).2, by rw [sizeLine_eq]; omega, ⟨_, _, _, _, _, _, _, _, _, O, N, S, _, rfl, f1, f2, f3, f4, f5⟩⟩
      clear W2 u6 u7 u8 u9 u10 u11 u12 u13 u14 H2 LN2 gS2 AX2 ll2 lx2 xs O N S
      rintro σ H2 ⟨u6, u7, u8, u9, u10, u11, u12, u13, u14, O, N, S, xs, rfl, W2, LN2, gS2, AX2, lx2⟩
      -- for octets in some
      refine ⟨_, rfl, S, rfl, ⟨_, SqL.of (off_get gS2).2⟩, ?_⟩
      refine for_list (K := K) (a := S) (xs := xs) (fun j σ' H' => ∃ (u3 u6 u7 u8 u9 u10 u11 u12 u13 u14 : Option V), σ' = [some (.ref a), some (.ref p), some (.int (i : Nat)), u3, some (.ref N), some (.ref S), u6, u7, u8, u9, u10, u11, u12, u13, u14] ∧ W8 P0 p c H' (3000 * i + 1000) ∧ LO 3 (OffS [P0, p] H') N ∧ OffS [P0, p] H' S = some (.lst xs) ∧ AllOL (OffS [P0, p] H') xs) ⟨_, _, _, _, _, _, _, _, _, _, rfl, W2, LN2, gS2, AX2⟩ (fun j σ H' _ ⟨_, _, _, _, _, _, _, _, _, _, _, _, _, g, _⟩ => SqL.of (off_get g).2) ?_ ?_
      · clear W2 u6 u7 u8 u9 u10 u11 u12 u13 u14 H2 LN2 gS2 AX2 O
        rintro j x σ H2 hj ⟨u3, u6, u7, u8, u9, u10, u11, u12, u13, u14, rfl, W2, LN2, gS2, AX2⟩
        have hx : x ∈ xs := List.mem_of_getElem? hj
        -- seen
        obtain ⟨o, os, rfl, gO2, hos, los⟩ := AX2 x hx
        have hD : Dv K H2 (.ref o) (.list (os.map PyData.int)) := .lst (SqL.of (off_get gO2).2) (dv_ints _)
        have zD := sz_oct hos los
        refine ⟨fun σ' H' => ∃ (u6 u8 u9 u10 u11 u12 u13 u14 : Option V), σ' = [some (.ref a), some (.ref p), some (.int (i : Nat)), some (.ref o), some (.ref N), some (.ref S), u6, some (.str (PyData.list (os.map PyData.int)).shown), u8, u9, u10, u11, u12, u13, u14] ∧ H' = H2, ?_, ?_⟩
        · refine ⟨_, rfl, _, _, rfl, hD, zD.ok, by have := zD.dp; omega, by have := zD.w; omega, ?_⟩
          exact ⟨_, _, _, _, _, _, _, _, rfl, rfl⟩
        clear u6 u7 u8 u9 u10 u11 u12 u13 u14
        rintro σ H2' ⟨u6, u8, u9, u10, u11, u12, u13, u14, rfl, eH⟩
        rw [eH]
        clear eH H2'
        -- due
        refine ⟨fun σ' H' => ∃ (u6 u9 u10 u11 u12 u13 u14 : Option V) (E t1 t2 : Addr), σ' = [some (.ref a), some (.ref p), some (.int (i : Nat)), some (.ref o), some (.ref N), some (.ref S), u6, some (.str (PyData.list (os.map PyData.int)).shown), some (.ref E), u9, u10, u11, u12, u13, u14] ∧ W8 P0 p c H' (3000 * i + 1000) ∧ Same (OffS [P0, p] H2) (OffS [P0, p] H') ∧ OffS [P0, p] H' E = some (.lst [.ref t1, .ref t2]) ∧ TkE K (OffS [P0, p] H') t1 (wRes takeIns Ins.vs os) ∧ TkE K (OffS [P0, p] H') t2 (wRes takeAns Ans.vs os), ?_, ?_⟩
        · have oc : Oc K H2 o os 0 := ⟨SqL.of (off_get gO2).2, hos, by omega, Nat.zero_le _⟩
          refine ⟨_, rfl, o, os, rfl, oc, fun y1 H3 s3 k3 => ?_⟩
          refine ⟨_, rfl, y1, o, _, _, rfl, k3, s3.seq oc.sq, fun t1 H4 s4 k4 => ?_⟩
          rw [List.length_map, ins_end] at k4
          have W4 := (W2.same s3).same s4
          have k4 := W4.tkE k4
          have o4 := (s3.trans s4).off (S := [P0, p])
          refine ⟨_, rfl, o, os, rfl, (oc.same s3).same s4, fun y2 H5 s5 k5 => ?_⟩
          refine ⟨_, rfl, y2, o, _, _, rfl, k5, s5.seq (s4.seq (s3.seq oc.sq)), fun t2 H6 s6 k6 => ?_⟩
          rw [List.length_map, ans_end] at k6
          have W6 := (W4.same s5).same s6
          have k6 := W6.tkE k6
          have s46 := (s5.trans s6).off (S := [P0, p])
          refine ⟨by show 2 ≤ sizeLine; decide, fun E hE => ?_⟩
          have sE := (Same.new (o := .lst [.ref t1, .ref t2]) hE).off (S := [P0, p])
          exact ⟨_, _, _, _, _, _, _, E, t1, t2, rfl, W6.new8 hE, (o4.trans s46).trans sE, off8_n (W6.off hE) upd_same, (k4.same s46).same sE, k6.same sE⟩
        clear u6 u8 u9 u10 u11 u12 u13 u14
        rintro σ H3 ⟨u6, u9, u10, u11, u12, u13, u14, E, t1, t2, rfl, W3, s3, gE3, k1, k2⟩
        have gO3 := s3 _ _ gO2
        have LN3 := LN2.keep s3
        have gS3 := s3 _ _ gS2
        have AX3 := AX2.keep s3
        clear s3 gO2 LN2 gS2 AX2 W2 hD
        clear H2
        -- told
        refine ⟨fun σ' H' => ∃ (u6 u10 u11 u12 u13 u14 : Option V) (L t3 : Addr), σ' = [some (.ref a), some (.ref p), some (.int (i : Nat)), some (.ref o), some (.ref N), some (.ref S), u6, some (.str (PyData.list (os.map PyData.int)).shown), some (.ref E), some (.ref L), u10, u11, u12, u13, u14] ∧ W8 P0 p c H' (3000 * i + 1000) ∧ L ∉ [P0, p] ∧ H' L = some (.lst [.ref t3]) ∧ Same (OffS [P0, p] H3) (OffS [L, P0, p] H') ∧ TkE K (OffS [L, P0, p] H') t3 (wRes takeIns Ins.vs os), ?_, ?_⟩
        · refine ⟨W3.tab, fun f c' H4 b4 t4 nf gf gc => ?_⟩
          have W4 := W3.lam b4 t4
          have o4 := off8_l (p := p) b4
          refine ⟨_, rfl, .inl (.inl ⟨f, c', _, rfl, gf, gc, told_oct (off_get (o4 _ _ gO3)).2 hos los fun t3 H5 s5 k5 => ?_⟩)⟩
          have W5 := W4.same s5
          have k5 := W5.tkE k5
          refine ⟨by show 1 ≤ sizeLine; decide, fun L hL => ?_⟩
          have sL := lay_hid (P0 := P0) (p := p) (o := .lst [.ref t3]) hL
          exact ⟨_, _, _, _, _, _, L, t3, rfl, W5.new8 hL, W5.off hL, upd_same, (o4.trans s5.off).trans sL, k5.same sL⟩
        clear u6 u9 u10 u11 u12 u13 u14
        rintro σ H4 ⟨u6, u10, u11, u12, u13, u14, L, t3, rfl, W4, nL, gL4, s4, k3⟩
        have gE4 := s4 _ _ gE3
        have k14 := k1.same s4
        have k24 := k2.same s4
        have gO4 := s4 _ _ gO3
        have LN4 := LN3.keep s4
        have gS4 := s4 _ _ gS3
        have AX4 := AX3.keep s4
        clear s4 gO3 LN3 gS3 AX3 W3 k1 k2 gE3 H3
        -- told.append
        refine ⟨fun σ' H' => ∃ (u6 u10 u11 u12 u13 u14 : Option V) (t4 : Addr), σ' = [some (.ref a), some (.ref p), some (.int (i : Nat)), some (.ref o), some (.ref N), some (.ref S), u6, some (.str (PyData.list (os.map PyData.int)).shown), some (.ref E), some (.ref L), u10, u11, u12, u13, u14] ∧ W8 P0 p c H' (3000 * i + 1000) ∧ H' L = some (.lst [.ref t3, .ref t4]) ∧ Same (OffS [L, P0, p] H4) (OffS [P0, p] H') ∧ TkE K (OffS [P0, p] H') t3 (wRes takeIns Ins.vs os) ∧ TkE K (OffS [P0, p] H') t4 (wRes takeAns Ans.vs os), ?_, ?_⟩
        · refine ⟨_, rfl, .inl ⟨rfl, _, SqL.of gL4⟩, W4.tab, fun f c' H5 b5 t5 nf gf gc => ?_⟩
          have W5 := W4.lam b5 t5
          have o5 := b5.off (S := [L, P0, p]) mem83
          have gL5 := b5 _ _ (fun z => nL (by rw [z]; exact List.mem_cons_self ..)) gL4
          refine ⟨_, rfl, .inl (.inr ⟨f, c', _, rfl, gf, gc, told_oct (off_get (o5 _ _ gO4)).2 hos los fun t4 H6 s6 k6 => ?_⟩)⟩
          have W6 := W5.same s6
          have gL6 := s6 _ _ gL5
          have k6 := W6.tkE k6
          have o6 := o5.trans s6.off
          refine ⟨L, _, _, rfl, rfl, gL6, by show 1 < sizeLine; decide, ?_⟩
          have sx : Same (OffS [L, P0, p] H6) (OffS [P0, p] (upd H6 L (.lst ([.ref t3] ++ [.ref t4])))) := off_put
          refine ⟨_, _, _, _, _, _, t4, rfl, W6.app1 gL6 nL, upd_same, o6.trans sx, (k3.same o6).same sx, ?_⟩
          exact k6.put gL6
        clear u6 u10 u11 u12 u13 u14 k3 nL gL4
        rintro σ H5 ⟨u6, u10, u11, u12, u13, u14, t4, rfl, W5, gL5, s5, k3, k4⟩
        have gE5 := s5 _ _ gE4
        have k15 := k14.same s5
        have k25 := k24.same s5
        have gO5 := s5 _ _ gO4
        have LN5 := LN4.keep s5
        have gS5 := s5 _ _ gS4
        have AX5 := AX4.keep s5
        clear s5 gO4 LN4 gS4 AX4 W4 k14 k24 gE4 H4
        have dT : Dp K H5 (.ref L) (.list [iD os, aD os]) := .lst (SqL.of gL5) (.cons (tkE_ins (k3.same (off_sub _ _))) (.cons (tkE_ans (k4.same (off_sub _ _))) .nil))
        have dE : Dp K H5 (.ref E) (.list [iD os, aD os]) := .lst (SqL.of (off_get gE5).2) (.cons (tkE_ins (k15.same (off_sub _ _))) (.cons (tkE_ans (k25.same (off_sub _ _))) .nil))
        refine ⟨_, rfl, _, rfl, .ref L, .ref E, _, rfl, dT, dE, dleL_2 (dle_iD os 8) (dle_aD os 8), fun H6 s6 => ?_⟩
        have o6 := s6.off (S := [P0, p])
        have hD : Dv K H6 (.ref o) (.list (os.map PyData.int)) := .lst (SqL.of (off_get (o6 _ _ gO5)).2) (dv_ints _)
        refine ⟨_, rfl, ifF rfl ?_⟩
        refine ⟨_, rfl, _, _, rfl, hD, zD.ok, by have := zD.dp; omega, by have := zD.w; omega, ?_⟩
        refine ⟨_, rfl, rfl, _, rfl, ifF (by rw [decide_eq_true rfl]; rfl) ?_⟩
        exact ⟨_, _, _, _, _, _, _, _, _, _, rfl, W5.same s6, LN5.keep o6, o6 _ _ gS5, AX5.keep o6⟩
      clear W2 u6 u7 u8 u9 u10 u11 u12 u13 u14 H2 LN2 gS2 AX2 O
      rintro σ H2 ⟨u3, u6, u7, u8, u9, u10, u11, u12, u13, u14, rfl, W2, LN2, -, -⟩
      -- odd
      refine ⟨fun σ' H' => ∃ (u3 u6 u7 u8 u9 u11 u12 u13 u14 : Option V) (D : Addr) (ods : List V), σ' = [some (.ref a), some (.ref p), some (.int (i : Nat)), u3, some (.ref N), some (.ref S), u6, u7, u8, u9, some (.ref D), u11, u12, u13, u14] ∧ W8 P0 p c H' (3000 * i + 1000) ∧ LO 3 (OffS [P0, p] H') N ∧ OffS [P0, p] H' D = some (.lst ods) ∧ (∀ x ∈ ods, Wr K (OffS [P0, p] H') x) ∧ ods.length = 10, ?_, ?_⟩
      · refine ⟨by show 2 ≤ sizeLine; decide, fun Q1 hQ1 => ?_⟩
        have W3 := W2.new8 (o := .tup [.int 1, .int 2]) hQ1
        have s3 := (Same.new (o := .tup [.int 1, .int 2]) hQ1).off (S := [P0, p])
        have lQ1 : Wr K (OffS [P0, p] (upd H2 Q1 (.tup [.int 1, .int 2]))) (.ref Q1) := wr_tup W2 hQ1
        replace LN2 := LN2.keep s3
        generalize upd H2 Q1 (.tup [.int 1, .int 2]) = H3 at W3 s3 lQ1 LN2 ⊢
        refine ⟨by show 1 ≤ sizeLine; decide, fun Q2 hQ2 => ?_⟩
        have W4 := W3.new8 (o := .lst [.int 256]) hQ2
        have s4 := (Same.new (o := .lst [.int 256]) hQ2).off (S := [P0, p])
        have lQ2 : Wr K (OffS [P0, p] (upd H3 Q2 (.lst [.int 256]))) (.ref Q2) := wr_lst W3 hQ2 rfl rfl (by decide)
        replace LN2 := LN2.keep s4
        replace lQ1 := lQ1.keep s4
        generalize upd H3 Q2 (.lst [.int 256]) = H4 at W4 s4 lQ2 LN2 lQ1 ⊢
        refine ⟨_, rfl, by show 1 ≤ sizeLine; decide, fun Q3 hQ3 => ?_⟩
        have W5 := W4.new8 (o := .lst [.int (-1)]) hQ3
        have s5 := (Same.new (o := .lst [.int (-1)]) hQ3).off (S := [P0, p])
        have lQ3 : Wr K (OffS [P0, p] (upd H4 Q3 (.lst [.int (-1)]))) (.ref Q3) := wr_lst W4 hQ3 rfl rfl (by decide)
        replace LN2 := LN2.keep s5
        replace lQ1 := lQ1.keep s5
        replace lQ2 := lQ2.keep s5
        generalize upd H4 Q3 (.lst [.int (-1)]) = H5 at W5 s5 lQ3 LN2 lQ1 lQ2 ⊢
        refine ⟨by show 1 ≤ sizeLine; decide, fun Q4 hQ4 => ?_⟩
        have W6 := W5.new8 (o := .lst [.str "a"]) hQ4
        have s6 := (Same.new (o := .lst [.str "a"]) hQ4).off (S := [P0, p])
        have lQ4 : Wr K (OffS [P0, p] (upd H5 Q4 (.lst [.str "a"]))) (.ref Q4) := wr_lst W5 hQ4 rfl rfl (by decide)
        replace LN2 := LN2.keep s6
        replace lQ1 := lQ1.keep s6
        replace lQ2 := lQ2.keep s6
        replace lQ3 := lQ3.keep s6
        generalize upd H5 Q4 (.lst [.str "a"]) = H6 at W6 s6 lQ4 LN2 lQ1 lQ2 lQ3 ⊢
        refine ⟨by show 1 ≤ sizeLine; decide, fun Q5 hQ5 => ?_⟩
        have W7 := W6.new8 (o := .lst [.bl true]) hQ5
        have s7 := (Same.new (o := .lst [.bl true]) hQ5).off (S := [P0, p])
        have lQ5 : Wr K (OffS [P0, p] (upd H6 Q5 (.lst [.bl true]))) (.ref Q5) := wr_lst W6 hQ5 rfl rfl (by decide)
        replace LN2 := LN2.keep s7
        replace lQ1 := lQ1.keep s7
        replace lQ2 := lQ2.keep s7
        replace lQ3 := lQ3.keep s7
        replace lQ4 := lQ4.keep s7
        generalize upd H6 Q5 (.lst [.bl true]) = H7 at W7 s7 lQ5 LN2 lQ1 lQ2 lQ3 lQ4 ⊢
        refine fun Q6 hQ6 => ?_
        have W8 := W7.new8 (o := .dK []) hQ6
        have s8 := (Same.new (o := .dK []) hQ6).off (S := [P0, p])
        have lQ6 : Wr K (OffS [P0, p] (upd H7 Q6 (.dK []))) (.ref Q6) := wr_dic W7 hQ6
        replace LN2 := LN2.keep s8
        replace lQ1 := lQ1.keep s8
        replace lQ2 := lQ2.keep s8
        replace lQ3 := lQ3.keep s8
        replace lQ4 := lQ4.keep s8
        replace lQ5 := lQ5.keep s8
        generalize upd H7 Q6 (.dK []) = H8 at W8 s8 lQ6 LN2 lQ1 lQ2 lQ3 lQ4 lQ5 ⊢
        refine ⟨by show 2 ≤ sizeLine; decide, fun Q7 hQ7 => ?_⟩
        have W9 := W8.new8 (o := .lst [.int 1, .non]) hQ7
        have s9 := (Same.new (o := .lst [.int 1, .non]) hQ7).off (S := [P0, p])
        have lQ7 : Wr K (OffS [P0, p] (upd H8 Q7 (.lst [.int 1, .non]))) (.ref Q7) := wr_lst W8 hQ7 rfl rfl (by decide)
        replace LN2 := LN2.keep s9
        replace lQ1 := lQ1.keep s9
        replace lQ2 := lQ2.keep s9
        replace lQ3 := lQ3.keep s9
        replace lQ4 := lQ4.keep s9
        replace lQ5 := lQ5.keep s9
        replace lQ6 := lQ6.keep s9
        generalize upd H8 Q7 (.lst [.int 1, .non]) = H9 at W9 s9 lQ7 LN2 lQ1 lQ2 lQ3 lQ4 lQ5 lQ6 ⊢
        refine ⟨by show 10 ≤ sizeLine; decide, fun D hD => ?_⟩
        have sD := (Same.new (o := .lst [.non, .ref Q1, .ref Q2, .ref Q3, .ref Q4, .ref Q5, .ref Q6, .int 7, .str "ab", .ref Q7]) hD).off (S := [P0, p])
        refine ⟨_, _, _, _, _, _, _, _, _, D, _, rfl, W9.new8 hD, LN2.keep sD, off8_n (W9.off hD) upd_same, fun x hx => ?_, rfl⟩
        simp only [List.mem_cons, List.not_mem_nil, or_false] at hx
        rcases hx with rfl | rfl | rfl | rfl | rfl | rfl | rfl | rfl | rfl | rfl
        · exact wr_sc rfl
        · exact lQ1.keep sD
        · exact lQ2.keep sD
        · exact lQ3.keep sD
        · exact lQ4.keep sD
        · exact lQ5.keep sD
        · exact lQ6.keep sD
        · exact wr_sc rfl
        · exact wr_sc rfl
        · exact lQ7.keep sD
      clear W2 u3 u6 u7 u8 u9 u10 u11 u12 u13 u14 H2 LN2 xs lx2
      rintro σ H2 ⟨u3, u6, u7, u8, u9, u11, u12, u13, u14, D, ods, rfl, W2, LN2, gD2, WD2, lD⟩
      -- good
      refine ⟨fun σ' H' => ∃ (u3 u6 u7 u8 u9 u12 u13 u14 : Option V) (R : Addr), σ' = [some (.ref a), some (.ref p), some (.int (i : Nat)), u3, some (.ref N), some (.ref S), u6, u7, u8, u9, some (.ref D), some (.ref R), u12, u13, u14] ∧ W8 P0 p c H' (3000 * i + 1200) ∧ LO 93 (OffS [P0, p] H') R ∧ OffS [P0, p] H' D = some (.lst ods) ∧ (∀ x ∈ ods, Wr K (OffS [P0, p] H') x), ?_, ?_⟩
      · refine ⟨_, rfl, p, c, _, rfl, W2.pen, by omega, fun one vi H3 g1 ok1 d3 => ?_⟩
        have W3 := W2.drew d3
        refine ⟨.ref one, vi, rfl, ⟨one, rfl, .inl (.inl g1)⟩, ok1, fun O H4 hO s4 gO => ?_⟩
        have W4 := W3.same s4
        have o4 := (off8_d (P0 := P0) d3).trans s4.off
        obtain ⟨as_, gN, has, lN⟩ := LN2.keep o4
        refine ⟨_, rfl, O, N, _, _, rfl, rfl, gO, (off_get gN).2, by rw [List.length_map, List.length_map, sizeLine_eq]; have := ins_len2 ok1; omega, fun R hR => ?_⟩
        have s5 := o4.trans (Same.new (o := .lst (vi.oct.map V.int ++ as_.map V.int)) hR).off
        exact ⟨_, _, _, _, _, _, _, _, R, rfl, W4.new8 hR, lo_lay (vi.oct ++ as_) W4 hR (List.map_append).symm (octs_app (ins_oct ok1) has) (by rw [List.length_append]; have := ins_len2 ok1; omega), s5 _ _ gD2, fun x hx => (WD2 x hx).keep s5⟩
      clear W2 u3 u6 u7 u8 u9 u11 u12 u13 u14 H2 LN2 gD2 WD2
      rintro σ H2 ⟨u3, u6, u7, u8, u9, u12, u13, u14, R, rfl, W2, LR2, gD2, WD2⟩
      -- spot
      refine ⟨fun σ' H' => ∃ (u3 u6 u7 u8 u9 u13 u14 : Option V) (m : Nat), σ' = [some (.ref a), some (.ref p), some (.int (i : Nat)), u3, some (.ref N), some (.ref S), u6, u7, u8, u9, some (.ref D), some (.ref R), some (.int (m : Nat)), u13, u14] ∧ W8 P0 p c H' (3000 * i + 1300) ∧ LO 93 (OffS [P0, p] H') R ∧ OffS [P0, p] H' D = some (.lst ods) ∧ (∀ x ∈ ods, Wr K (OffS [P0, p] H') x), ?_, ?_⟩
      · obtain ⟨os, gR, hos, lR⟩ := LR2
        refine ⟨_, rfl, _, rfl, _, _, rfl, lenL (SqL.of (off_get gR).2), _, _, rfl, rfl, p, c, _, _, rfl, W2.pen, by omega, by rw [List.length_map]; omega, by omega, fun r H3 h0 h1 d3 => ?_⟩
        have o3 := off8_d (P0 := P0) d3
        have er : r = ((r.toNat : Nat) : Int) := by omega
        exact ⟨_, _, _, _, _, _, _, r.toNat, by rw [← er]; rfl, (W2.drew d3).mono (by omega), LO.keep ⟨os, gR, hos, lR⟩ o3, o3 _ _ gD2, fun x hx => (WD2 x hx).keep o3⟩
      clear W2 u3 u6 u7 u8 u9 u12 u13 u14 H2 LR2 gD2 WD2
      rintro σ H2 ⟨u3, u6, u7, u8, u9, u13, u14, m, rfl, W2, LR2, gD2, WD2⟩
      -- bent
      refine ⟨fun σ' H' => ∃ (u3 u6 u7 u8 u9 u14 : Option V) (B : Addr), σ' = [some (.ref a), some (.ref p), some (.int (i : Nat)), u3, some (.ref N), some (.ref S), u6, u7, u8, u9, some (.ref D), some (.ref R), some (.int (m : Nat)), some (.ref B), u14] ∧ W8 P0 p c H' (3000 * i + 1400) ∧ LO 93 (OffS [P0, p] H') R ∧ BL K 94 (OffS [P0, p] H') B ∧ OffS [P0, p] H' D = some (.lst ods) ∧ (∀ x ∈ ods, Wr K (OffS [P0, p] H') x), ?_, ?_⟩
      · obtain ⟨os, gR, hos, lR⟩ := LR2
        refine ⟨_, rfl, _, rfl, _, rfl, R, _, rfl, SqL.of (off_get gR).2, fun X1 hX1 => ?_⟩
        rw [cut_to]
        have kT : ∀ y ∈ (os.map V.int).take m, ∃ t, Kind K (OffS [P0, p] H2) y t := fun y hy => kd_ints y (List.mem_of_mem_take hy)
        have lT : ((os.map V.int).take m).length ≤ m ∧ ((os.map V.int).take m).length + ((os.map V.int).drop m).length = os.length := by
          rw [← List.length_append, List.take_append_drop, List.length_map, List.length_take]; omega
        generalize hXT : (os.map V.int).take m = XT at kT lT ⊢
        have W3 := W2.new8 (o := .lst XT) hX1
        have s3 := (Same.new (o := .lst XT) hX1).off (S := [P0, p])
        have gX1 : OffS [P0, p] (upd H2 X1 (.lst XT)) X1 = some (.lst XT) := off8_n (W2.off hX1) upd_same
        generalize upd H2 X1 (.lst XT) = H3 at W3 s3 gX1 ⊢
        refine ⟨_, rfl, _, rfl, by show 1 ≤ sizeLine; decide, fun Z0 hZ0 => ?_⟩
        have W4 := W3.new8 (o := .lst [.int 0]) hZ0
        have s4 := (Same.new (o := .lst [.int 0]) hZ0).off (S := [P0, p])
        have gZ0 : OffS [P0, p] (upd H3 Z0 (.lst [.int 0])) Z0 = some (.lst [.int 0]) := off8_n (W3.off hZ0) upd_same
        have o4 := s3.trans s4
        replace gX1 := s4 _ _ gX1
        generalize upd H3 Z0 (.lst [.int 0]) = H4 at W4 o4 gZ0 gX1 ⊢
        refine ⟨_, _, rfl, rfl, ⟨by decide, by decide, by decide⟩, by show 7 ≤ sizeLine; decide, fun Y hY => ?_⟩
        have W5 := W4.new8 (o := .lst [.int 256, .int (-1), .str "a", .bl true, .non, .ref Z0, .int (10 ^ (9 : Int).toNat)]) hY
        have s5 := (Same.new (o := .lst [.int 256, .int (-1), .str "a", .bl true, .non, .ref Z0, .int (10 ^ (9 : Int).toNat)]) hY).off (S := [P0, p])
        have gY : OffS [P0, p] (upd H4 Y (.lst [.int 256, .int (-1), .str "a", .bl true, .non, .ref Z0, .int (10 ^ (9 : Int).toNat)])) Y = some (.lst [.int 256, .int (-1), .str "a", .bl true, .non, .ref Z0, .int (10 ^ (9 : Int).toNat)]) := off8_n (W4.off hY) upd_same
        have o5 := o4.trans s5
        replace gX1 := s5 _ _ gX1
        replace gZ0 := s5 _ _ gZ0
        generalize upd H4 Y (.lst [.int 256, .int (-1), .str "a", .bl true, .non, .ref Z0, .int (10 ^ (9 : Int).toNat)]) = H5 at W5 o5 gZ0 gX1 gY ⊢
        refine ⟨p, c, Y, _, _, rfl, W5.pen, SqL.of (off_get gY).2, off8_pp gY, by simp, by show 7 ≤ 1000; decide, by omega, fun x H6 hx d6 => ?_⟩
        have W6 := W5.drew d6
        have s6 := off8_d (P0 := P0) d6
        have o6 := o5.trans s6
        replace gX1 := s6 _ _ gX1
        replace gZ0 := s6 _ _ gZ0
        have hx : (∃ t, Kind K (OffS [P0, p] H6) x t) ∧ btw x 0 255 = false := by
          simp only [List.mem_cons, List.not_mem_nil, or_false] at hx
          rcases hx with rfl | rfl | rfl | rfl | rfl | rfl | rfl
          · exact ⟨scV_kind rfl, rfl⟩
          · exact ⟨scV_kind rfl, rfl⟩
          · exact ⟨scV_kind rfl, rfl⟩
          · exact ⟨scV_kind rfl, rfl⟩
          · exact ⟨scV_kind rfl, rfl⟩
          · exact ⟨⟨_, .lst (SqL.of gZ0)⟩, rfl⟩
          · exact ⟨scV_kind rfl, by decide +kernel⟩
        refine ⟨by show 1 ≤ sizeLine; decide, fun X2 hX2 => ?_⟩
        have W7 := W6.new8 (o := .lst [x]) hX2
        have s7 := (Same.new (o := .lst [x]) hX2).off (S := [P0, p])
        have gX2 : OffS [P0, p] (upd H6 X2 (.lst [x])) X2 = some (.lst [x]) := off8_n (W6.off hX2) upd_same
        have kx : ∃ t, Kind K (OffS [P0, p] (upd H6 X2 (.lst [x]))) x t := by obtain ⟨t, k⟩ := hx.1; exact ⟨t, k.keep s7⟩
        have o7 := o6.trans s7
        replace gX1 := s7 _ _ gX1
        generalize upd H6 X2 (.lst [x]) = H7 at W7 o7 gX1 gX2 kx ⊢
        refine ⟨X1, X2, _, _, rfl, rfl, (off_get gX1).2, (off_get gX2).2, by show XT.length + 1 ≤ sizeLine; rw [sizeLine_eq]; omega, fun X3 hX3 => ?_⟩
        have W8 := W7.new8 (o := .lst (XT ++ [x])) hX3
        have s8 := (Same.new (o := .lst (XT ++ [x])) hX3).off (S := [P0, p])
        have gX3 : OffS [P0, p] (upd H7 X3 (.lst (XT ++ [x]))) X3 = some (.lst (XT ++ [x])) := off8_n (W7.off hX3) upd_same
        have kx : ∃ t, Kind K (OffS [P0, p] (upd H7 X3 (.lst (XT ++ [x])))) x t := by obtain ⟨t, k⟩ := kx; exact ⟨t, k.keep s8⟩
        have o8 := o7.trans s8
        generalize upd H7 X3 (.lst (XT ++ [x])) = H8 at W8 o8 gX3 kx ⊢
        refine ⟨_, rfl, _, rfl, _, rfl, R, _, rfl, SqL.of (off_get (o8 _ _ gR)).2, fun X4 hX4 => ?_⟩
        rw [cut_from]
        generalize hXD : (os.map V.int).drop m = XD at lT ⊢
        have kD : ∀ y ∈ XD, ∃ t, Kind K (OffS [P0, p] H8) y t := fun y hy => kd_ints (os := os) y (List.mem_of_mem_drop (hXD ▸ hy))
        have W9 := W8.new8 (o := .lst XD) hX4
        have s9 := (Same.new (o := .lst XD) hX4).off (S := [P0, p])
        have gX4 : OffS [P0, p] (upd H8 X4 (.lst XD)) X4 = some (.lst XD) := off8_n (W8.off hX4) upd_same
        have o9 := o8.trans s9
        replace gX3 := s9 _ _ gX3
        have kA : ∀ y ∈ XT ++ [x] ++ XD, ∃ t, Kind K (OffS [P0, p] (upd H8 X4 (.lst XD))) y t := fun y hy => by
          have := kd_app (kd_app (fun z hz => by obtain ⟨t, k⟩ := kT z hz; exact ⟨t, k.keep o8⟩) (kd_one kx)) kD y hy
          obtain ⟨t, k⟩ := this
          exact ⟨t, k.keep s9⟩
        generalize upd H8 X4 (.lst XD) = H9 at W9 o9 gX3 gX4 kA ⊢
        have lA : (XT ++ [x]).length + XD.length ≤ 94 := by rw [List.length_append]; show XT.length + 1 + XD.length ≤ 94; omega
        refine ⟨X3, X4, _, _, rfl, rfl, (off_get gX3).2, (off_get gX4).2, by rw [sizeLine_eq]; omega, fun B hB => ?_⟩
        have sB := (Same.new (o := .lst (XT ++ [x] ++ XD)) hB).off (S := [P0, p])
        have oB := o9.trans sB
        refine ⟨_, _, _, _, _, _, B, rfl, (W9.new8 hB).mono (by omega), LO.keep ⟨os, gR, hos, lR⟩ oB, bl_new W9 hB (by rw [List.length_append]; exact lA) kA (octV_app (.inl (octV_app (.inr ?_)))), oB _ _ gD2, fun x hx => (WD2 x hx).keep oB⟩
        show (btw x 0 255 && true) = false
        rw [hx.2]; rfl
      clear W2 u3 u6 u7 u8 u9 u13 u14 H2 LR2 gD2 WD2
      rintro σ H2 ⟨u3, u6, u7, u8, u9, u14, B, rfl, W2, LR2, BL2, gD2, WD2⟩
      -- bent, again
      refine ⟨fun σ' H' => ∃ (u3 u6 u7 u8 u9 u14 : Option V) (B : Addr), σ' = [some (.ref a), some (.ref p), some (.int (i : Nat)), u3, some (.ref N), some (.ref S), u6, u7, u8, u9, some (.ref D), some (.ref R), some (.int (m : Nat)), some (.ref B), u14] ∧ W8 P0 p c H' (3000 * i + 1500) ∧ BL K 110 (OffS [P0, p] H') B ∧ OffS [P0, p] H' D = some (.lst ods) ∧ (∀ x ∈ ods, Wr K (OffS [P0, p] H') x), ?_, ?_⟩
      · refine ⟨_, rfl, _, rfl, ?_⟩
        refine ⟨by show 1 ≤ sizeLine; decide, fun L1 hL1 => ?_⟩
        have W3 := W2.new8 (o := .lst [.int 96]) hL1
        have s3 := (Same.new (o := .lst [.int 96]) hL1).off (S := [P0, p])
        have gL1 : OffS [P0, p] (upd H2 L1 (.lst [.int 96])) L1 = some (.lst [.int 96]) := off8_n (W2.off hL1) upd_same
        have o3 := s3
        generalize upd H2 L1 (.lst [.int 96]) = H3 at W3 o3 gL1  ⊢
        obtain ⟨bs3, gB3, lB3, kB3, oB3⟩ := BL2.keep o3
        refine ⟨_, rfl, L1, B, _, _, rfl, rfl, (off_get gL1).2, (off_get gB3).2, by show 1 + bs3.length ≤ sizeLine; rw [sizeLine_eq]; omega, fun C1 hC1 => ?_⟩
        have W4 := W3.new8 (o := .lst ([.int 96] ++ bs3)) hC1
        have s4 := (Same.new (o := .lst ([.int 96] ++ bs3)) hC1).off (S := [P0, p])
        have bC1 : BL K 95 (OffS [P0, p] (upd H3 C1 (.lst ([.int 96] ++ bs3)))) C1 := BL.pre W3 hC1 lB3 kB3 oB3
        have o4 := o3.trans s4
        generalize upd H3 C1 (.lst ([.int 96] ++ bs3)) = H4 at W4 o4 bC1  ⊢
        refine ⟨by show 1 ≤ sizeLine; decide, fun L2 hL2 => ?_⟩
        have W5 := W4.new8 (o := .lst [.int 85]) hL2
        have s5 := (Same.new (o := .lst [.int 85]) hL2).off (S := [P0, p])
        have gL2 : OffS [P0, p] (upd H4 L2 (.lst [.int 85])) L2 = some (.lst [.int 85]) := off8_n (W4.off hL2) upd_same
        have o5 := o4.trans s5
        replace bC1 := bC1.keep s5
        generalize upd H4 L2 (.lst [.int 85]) = H5 at W5 o5 gL2 bC1 ⊢
        obtain ⟨bs5, gB5, lB5, kB5, oB5⟩ := BL2.keep o5
        refine ⟨_, rfl, L2, B, _, _, rfl, rfl, (off_get gL2).2, (off_get gB5).2, by show 1 + bs5.length ≤ sizeLine; rw [sizeLine_eq]; omega, fun C2 hC2 => ?_⟩
        have W6 := W5.new8 (o := .lst ([.int 85] ++ bs5)) hC2
        have s6 := (Same.new (o := .lst ([.int 85] ++ bs5)) hC2).off (S := [P0, p])
        have bC2 : BL K 95 (OffS [P0, p] (upd H5 C2 (.lst ([.int 85] ++ bs5)))) C2 := BL.pre W5 hC2 lB5 kB5 oB5
        have o6 := o5.trans s6
        replace bC1 := bC1.keep s6
        generalize upd H5 C2 (.lst ([.int 85] ++ bs5)) = H6 at W6 o6 bC2 bC1 ⊢
        obtain ⟨os, gR, hos, lR⟩ := LR2.keep o6
        refine ⟨_, rfl, _, rfl, p, c, _, R, os, rfl, off8_pp gR, W6.pen, (off_get gR).2, by omega, hos, by omega, fun X xs H7 hX gX lX hxs d7 => ?_⟩
        have W7 := W6.drew d7
        have s7 := off8_d (P0 := P0) d7
        have o7 := o6.trans s7
        have gX : OffS [P0, p] H7 X = some (.lst (xs.map V.int)) := off8_n (W6.off hX) gX
        replace bC1 := bC1.keep s7
        replace bC2 := bC2.keep s7
        refine ⟨by show 1 ≤ sizeLine; decide, fun L3 hL3 => ?_⟩
        have W8 := W7.new8 (o := .lst [.int 256]) hL3
        have s8 := (Same.new (o := .lst [.int 256]) hL3).off (S := [P0, p])
        have gL3 : OffS [P0, p] (upd H7 L3 (.lst [.int 256])) L3 = some (.lst [.int 256]) := off8_n (W7.off hL3) upd_same
        have o8 := o7.trans s8
        replace gX := s8 _ _ gX
        replace bC1 := bC1.keep s8
        replace bC2 := bC2.keep s8
        generalize upd H7 L3 (.lst [.int 256]) = H8 at W8 o8 gL3 gX bC1 bC2 ⊢
        refine ⟨X, L3, _, _, rfl, rfl, (off_get gX).2, (off_get gL3).2, by rw [List.length_map]; show xs.length + 1 ≤ sizeLine; rw [sizeLine_eq]; omega, fun C3 hC3 => ?_⟩
        have W9 := W8.new8 (o := .lst (xs.map V.int ++ [.int 256])) hC3
        have s9 := (Same.new (o := .lst (xs.map V.int ++ [.int 256])) hC3).off (S := [P0, p])
        have bC3 : BL K 110 (OffS [P0, p] (upd H8 C3 (.lst (xs.map V.int ++ [.int 256])))) C3 := bl_new W8 hC3 (by rw [List.length_append, List.length_map]; show xs.length + 1 ≤ 110; omega) (kd_app kd_ints (kd_one ⟨_, .int _⟩)) (octV_app (.inr rfl))
        have o9 := o8.trans s9
        replace bC1 := bC1.keep s9
        replace bC2 := bC2.keep s9
        generalize upd H8 C3 (.lst (xs.map V.int ++ [.int 256])) = H9 at W9 o9 bC1 bC2 bC3 ⊢
        refine ⟨by show 4 ≤ sizeLine; decide, fun Y hY => ?_⟩
        have W10 := W9.new8 (o := .lst [.ref B, .ref C1, .ref C2, .ref C3]) hY
        have s10 := (Same.new (o := .lst [.ref B, .ref C1, .ref C2, .ref C3]) hY).off (S := [P0, p])
        have gY : OffS [P0, p] (upd H9 Y (.lst [.ref B, .ref C1, .ref C2, .ref C3])) Y = some (.lst [.ref B, .ref C1, .ref C2, .ref C3]) := off8_n (W9.off hY) upd_same
        have o10 := o9.trans s10
        replace bC1 := bC1.keep s10
        replace bC2 := bC2.keep s10
        replace bC3 := bC3.keep s10
        generalize upd H9 Y (.lst [.ref B, .ref C1, .ref C2, .ref C3]) = H10 at W10 o10 gY bC1 bC2 bC3 ⊢
        refine ⟨p, c, Y, _, _, rfl, W10.pen, SqL.of (off_get gY).2, off8_pp gY, by simp, by show 4 ≤ 1000; decide, by omega, fun x H11 hx d11 => ?_⟩
        have W11 := W10.drew d11
        have s11 := off8_d (P0 := P0) d11
        have o11 := o10.trans s11
        have hx : ∃ B', x = .ref B' ∧ BL K 110 (OffS [P0, p] H11) B' := by
          simp only [List.mem_cons, List.not_mem_nil, or_false] at hx
          rcases hx with rfl | rfl | rfl | rfl
          · exact ⟨_, rfl, (BL2.keep o11).mono (by decide)⟩
          · exact ⟨_, rfl, (bC1.keep s11).mono (by decide)⟩
          · exact ⟨_, rfl, (bC2.keep s11).mono (by decide)⟩
          · exact ⟨_, rfl, bC3.keep s11⟩
        obtain ⟨B', rfl, bB⟩ := hx
        exact ⟨_, _, _, _, _, _, B', rfl, W11.mono (by omega), bB, o11 _ _ gD2, fun x hx => (WD2 x hx).keep o11⟩
      clear W2 u3 u6 u7 u8 u9 u14 H2 LR2 BL2 gD2 WD2 B
      rintro σ H2 ⟨u3, u6, u7, u8, u9, u14, B, rfl, W2, BL2, gD2, WD2⟩
      -- wrong
      refine ⟨fun σ' H' => ∃ (u3 u6 u7 u8 u9 : Option V) (x : V), σ' = [some (.ref a), some (.ref p), some (.int (i : Nat)), u3, some (.ref N), some (.ref S), u6, u7, u8, u9, some (.ref D), some (.ref R), some (.int (m : Nat)), some (.ref B), some x] ∧ W8 P0 p c H' (3000 * i + 1600) ∧ Wr K (OffS [P0, p] H') x, ?_, ?_⟩
      · refine ⟨_, rfl, _, rfl, _, rfl, by show 1 ≤ sizeLine; decide, fun L hL => ?_⟩
        have W3 := W2.new8 (o := .lst [.ref B]) hL
        have s3 := (Same.new (o := .lst [.ref B]) hL).off (S := [P0, p])
        have gL : OffS [P0, p] (upd H2 L (.lst [.ref B])) L = some (.lst [.ref B]) := off8_n (W2.off hL) upd_same
        generalize upd H2 L (.lst [.ref B]) = H3 at W3 s3 gL ⊢
        refine ⟨L, _, _, rfl, rfl, (off_get gL).2, by decide, by decide, by show 1 * 10 ≤ sizeLine; decide, fun M hM => ?_⟩
        have W4 := W3.new8 (o := .lst (List.replicate (10 : Int).toNat [V.ref B]).flatten) hM
        have s4 := (Same.new (o := .lst (List.replicate (10 : Int).toNat [V.ref B]).flatten) hM).off (S := [P0, p])
        have gM : OffS [P0, p] (upd H3 M (.lst (List.replicate (10 : Int).toNat [V.ref B]).flatten)) M = some (.lst (List.replicate (10 : Int).toNat [V.ref B]).flatten) := off8_n (W3.off hM) upd_same
        have o4 := s3.trans s4
        generalize upd H3 M (.lst (List.replicate (10 : Int).toNat [V.ref B]).flatten) = H4 at W4 o4 gM ⊢
        refine ⟨D, M, _, _, rfl, rfl, (off_get (o4 _ _ gD2)).2, (off_get gM).2, by show ods.length + 10 ≤ sizeLine; rw [lD, sizeLine_eq]; omega, fun Y hY => ?_⟩
        have W5 := W4.new8 (o := .lst (ods ++ (List.replicate (10 : Int).toNat [V.ref B]).flatten)) hY
        have s5 := (Same.new (o := .lst (ods ++ (List.replicate (10 : Int).toNat [V.ref B]).flatten)) hY).off (S := [P0, p])
        have gY : OffS [P0, p] (upd H4 Y (.lst (ods ++ (List.replicate (10 : Int).toNat [V.ref B]).flatten))) Y = some (.lst (ods ++ (List.replicate (10 : Int).toNat [V.ref B]).flatten)) := off8_n (W4.off hY) upd_same
        have o5 := o4.trans s5
        generalize upd H4 Y (.lst (ods ++ (List.replicate (10 : Int).toNat [V.ref B]).flatten)) = H5 at W5 o5 gY ⊢
        refine ⟨p, c, Y, _, _, rfl, W5.pen, SqL.of (off_get gY).2, off8_pp gY, fun z => by have := congrArg List.length z; rw [List.length_append, lD] at this; exact absurd this (by show ¬ (10 + _ = 0); omega), by rw [List.length_append]; show ods.length + 10 ≤ 1000; omega, by omega, fun x H6 hx d6 => ?_⟩
        have o6 := o5.trans (off8_d (P0 := P0) d6)
        refine ⟨_, _, _, _, _, x, rfl, (W5.drew d6).mono (by omega), ?_⟩
        rcases List.mem_append.mp hx with hx | hx
        · exact (WD2 x hx).keep o6
        · obtain ⟨l, hl, hxl⟩ := List.mem_flatten.mp hx
          rw [(List.mem_replicate.mp hl).2] at hxl
          rw [List.mem_singleton.mp hxl]
          exact (BL2.keep o6).wr (by decide)
      clear W2 u3 u6 u7 u8 u9 u14 H2 BL2 gD2 WD2
      rintro σ H2 ⟨u3, u6, u7, u8, u9, x, rfl, W2, WX2⟩
      -- told
      refine ⟨fun σ' H' => ∃ (u3 u6 u7 u8 : Option V) (L : Addr), σ' = [some (.ref a), some (.ref p), some (.int (i : Nat)), u3, some (.ref N), some (.ref S), u6, u7, u8, some (.ref L), some (.ref D), some (.ref R), some (.int (m : Nat)), some (.ref B), some x] ∧ W8 P0 p c H' (3000 * i + 1600) ∧ L ∉ [P0, p] ∧ H' L = some (.lst [.str "list"]) ∧ Wr K (OffS [L, P0, p] H') x, ?_, ?_⟩
      · refine ⟨W2.tab, fun f c' H4 b4 t4 nf gf gc => ?_⟩
        have W4 := W2.lam b4 t4
        have o4 := off8_l (p := p) b4
        refine ⟨_, rfl, .inr (.inl ⟨f, c', _, rfl, gf, gc, WX2.told (o4.trans (off_sub _ _)) fun H5 s5 => ?_⟩)⟩
        have W5 := W4.same s5
        refine ⟨by show 1 ≤ sizeLine; decide, fun L hL => ?_⟩
        have sL := lay_hid (P0 := P0) (p := p) (o := .lst [.str "list"]) hL
        exact ⟨_, _, _, _, L, rfl, W5.new8 hL, W5.off hL, upd_same, WX2.keep ((o4.trans s5.off).trans sL)⟩
      clear W2 u3 u6 u7 u8 u9 H2 WX2
      rintro σ H2 ⟨u3, u6, u7, u8, L, rfl, W2, nL, gL2, WX2⟩
      -- told.append
      refine ⟨fun σ' H' => ∃ (u3 u6 u7 u8 : Option V), σ' = [some (.ref a), some (.ref p), some (.int (i : Nat)), u3, some (.ref N), some (.ref S), u6, u7, u8, some (.ref L), some (.ref D), some (.ref R), some (.int (m : Nat)), some (.ref B), some x] ∧ W8 P0 p c H' (3000 * i + 1600) ∧ H' L = some (.lst [.str "list", .str "list"]), ?_, ?_⟩
      · refine ⟨_, rfl, .inl ⟨rfl, _, SqL.of gL2⟩, W2.tab, fun f c' H5 b5 t5 nf gf gc => ?_⟩
        have W5 := W2.lam b5 t5
        have o5 := b5.off (S := [L, P0, p]) mem83
        have gL5 := b5 _ _ (fun z => nL (by rw [z]; exact List.mem_cons_self ..)) gL2
        refine ⟨_, rfl, .inr (.inr ⟨f, c', _, rfl, gf, gc, WX2.told (o5.trans (off_sub _ _)) fun H6 s6 => ?_⟩)⟩
        have W6 := W5.same s6
        have gL6 := s6 _ _ gL5
        refine ⟨L, _, _, rfl, rfl, gL6, by show 1 < sizeLine; decide, ?_⟩
        exact ⟨_, _, _, _, rfl, W6.app2 gL6 nL, upd_same⟩
      clear W2 u3 u6 u7 u8 H2 WX2 gL2 nL
      rintro σ H2 ⟨u3, u6, u7, u8, rfl, W2, gL2⟩
      refine ⟨_, rfl, by show 2 ≤ sizeLine; decide, fun M hM => ?_⟩
      have sM := Same.new (o := .lst [.str "list", .str "list"]) hM
      refine ⟨.list [.str "list", .str "list"], .list [.str "list", .str "list"], .lst (SqL.of (sM _ _ gL2)) (.cons (.str _) (.cons (.str _) .nil)), .lst (SqL.of upd_same) (.cons (.str _) (.cons (.str _) .nil)), by decide +kernel, by decide +kernel, _, rfl, ifF (by decide +kernel) ?_⟩
      exact ⟨_, _, _, _, _, _, _, _, _, _, _, _, _, rfl, (W2.same sM).mono (by omega)⟩
    · rintro σ H' ⟨v2, v3, v4, v5, v6, v7, v8, v9, v10, v11, v12, v13, v14, rfl, P2⟩
      exact q H'

end
theorem all_mk {l : PySem.W.OpenLaw} {w : World} {K : PySem.W.Frag} {h : Heap} {mg : Str → Option Value} {fa : Addr} (X : K.In h) (G : h.Ns mainGlobals mg) (hfa : mg "law" = some (.ref fa))
    {C0 : Addr} (cC0 : PySem.W.nsIn K mainGlobals "FieldError" = some (some (.ref C0)))
    (rd0 : PySem.W.readsIn K C0 (.type "type") = true) (ga0 : PySem.W.specialIn K (.ref C0) "__getattribute__" = some (some (.builtin "type.__getattribute__"))) (in0 : PySem.W.findCls K (.ref C0) (.type "type") "__init__" = some (.val (.builtin "ValueError.__init__")))
    (rb0 : PySem.W.subIn K (.ref C0) (.type "BaseException") = some true) (rt0 : PySem.W.typeIn K (.ref C0) = some (.type "type")) (rc0 : PySem.W.hasDictIn K C0 = true)
    {C1 : Addr} (cC1 : PySem.W.nsIn K mainGlobals "NoOctetList" = some (some (.ref C1)))
    (kC1 : PySem.W.keepIn K (.ref C1) = true) (eC1 : PySem.W.subIn K (.ref C1) (.type "BaseException") = some true) (tC1 : PySem.W.typeIn K (.ref C1) = some (.type "type")) (uC1 : PySem.W.subIn K (.ref C1) (.ref C0) = some true)
    (xC1 : PySem.W.excIn K C1 [.type "ValueError", .type "Exception", .type "BaseException", .type "object"] "ValueError.__new__" = true)
    {C2 : Addr} (cC2 : PySem.W.nsIn K mainGlobals "NoOctets" = some (some (.ref C2)))
    (kC2 : PySem.W.keepIn K (.ref C2) = true) (eC2 : PySem.W.subIn K (.ref C2) (.type "BaseException") = some true) (tC2 : PySem.W.typeIn K (.ref C2) = some (.type "type")) (uC2 : PySem.W.subIn K (.ref C2) (.ref C0) = some true)
    {nm2 q2 : Str} {N2 : Addr} {bs2 bm2 : List Value} {sn2 : List Str} {sub2 : List Value} {ab2 : Bool} {col2 : Option Bool} {dd2 : Option Addr} {m02 m12 m22 m32 m52 : Option Value}
    (xL2 : K.lookup C2 = some (excClassObj nm2 q2 C2 N2 bs2 bm2 true sn2 sub2 ab2 col2 dd2 m02 m12 m22 m32 m52 "ValueError.__new__")) (rv2 : PySem.HandSPX.refsVE bm2 = true)
    (sa2 : PySem.W.findIn K (.ref C2) "__setattr__" = some (some (.builtin "object.__setattr__"))) (nb2 : PySem.W.findIn K (.ref C2) "place" = some none)
    {C3 : Addr} (cC3 : PySem.W.nsIn K mainGlobals "Reader" = some (some (.ref C3)))
    (pg3 : PySem.W.plainGet K C3 Str.empty = true) (hd3 : PySem.W.hasDictIn K C3 = true) (po3 : PySem.W.plainOver K C3 = true) (sa3 : PySem.W.findIn K (.ref C3) "__setattr__" = some (some (.builtin "object.__setattr__"))) (mk3 : PySem.W.makesIn K C3 = true) (kC3 : PySem.W.keepIn K (.ref C3) = true)
    (n3_0 : PySem.W.findIn K (.ref C3) "octets" = some none)
    (n3_1 : PySem.W.findIn K (.ref C3) "place" = some none)
    (xn_ : PySem.W.specialIn K (.builtin "object.__class__") "__get__" = some (some (.builtin "getset_descriptor.__get__"))) (xt_ : PySem.W.takesIn K (.builtin "object.__class__") = some true)
    (xg1 : PySem.W.findIn K (.ref C1) "__getattribute__" = some (some (.builtin "BaseException.__getattribute__"))) (xk1 : PySem.W.findIn K (.ref C1) "__getattr__" = some none) (xs1 : PySem.W.subIn K (.ref C1) (.type "BaseException") = some true) (xd1 : PySem.W.hasDictIn K C1 = true) (xa1 : PySem.W.findIn K (.ref C1) "__class__" = some (some (.builtin "object.__class__"))) (xm1 : PySem.W.mroIn K C1 (.type "object") = some true) (xy1 : PySem.W.typeIn K (.ref C1) = some (.type "type")) (xz1 : PySem.W.subIn K (.type "NoneType") (.ref C1) = some false)
    (xg2 : PySem.W.findIn K (.ref C2) "__getattribute__" = some (some (.builtin "BaseException.__getattribute__"))) (xk2 : PySem.W.findIn K (.ref C2) "__getattr__" = some none) (xs2 : PySem.W.subIn K (.ref C2) (.type "BaseException") = some true) (xd2 : PySem.W.hasDictIn K C2 = true) (xa2 : PySem.W.findIn K (.ref C2) "__class__" = some (some (.builtin "object.__class__"))) (xm2 : PySem.W.mroIn K C2 (.type "object") = some true) (xy2 : PySem.W.typeIn K (.ref C2) = some (.type "type")) (xz2 : PySem.W.subIn K (.type "NoneType") (.ref C2) = some false)
    (xu2_2 : PySem.W.subIn K (.ref C2) (.ref C2) = some true)
    (xu2_1 : PySem.W.subIn K (.ref C2) (.ref C1) = some false)
    (xu1_2 : PySem.W.subIn K (.ref C1) (.ref C2) = some false)
    (xu1_1 : PySem.W.subIn K (.ref C1) (.ref C1) = some true)
    {f0 : Addr} {od0 an0 : Option Addr} {sl0 : Array (Option Value)} {oc0 kV0 dc0 pm0 cd0 ct0 : Value}
    (a0 : PySem.W.findIn K (.ref C2) "__init__" = some (some (.ref f0))) (l0 : K.lookup f0 = some ⟨oc0, od0, .func (PySem.W.fnOf "__init__" "NoOctets.__init__" (defArgs s_NoOctets_init) (defBody s_NoOctets_init) (defScope s_NoOctets_init) .none kV0 dc0 pm0 an0 cd0 ct0), sl0⟩) (c0 : PySem.W.codeIn K cd0 "NoOctets.__init__" = true) (k0 : PySem.W.keepIn K (.ref f0) = true)
    (i0 : PySem.W.isFn K (.ref f0) = true) (t0 : PySem.W.typeIn K (.ref f0) = some (.type "function"))
    {f1 : Addr} {od1 an1 : Option Addr} {sl1 : Array (Option Value)} {oc1 kV1 dc1 pm1 cd1 ct1 : Value}
    (a1 : PySem.W.nsIn K mainGlobals "is_between" = some (some (.ref f1))) (l1 : K.lookup f1 = some ⟨oc1, od1, .func (PySem.W.fnOf "is_between" "is_between" (defArgs s_is_between) (defBody s_is_between) (defScope s_is_between) .none kV1 dc1 pm1 an1 cd1 ct1), sl1⟩) (c1 : PySem.W.codeIn K cd1 "is_between" = true) (k1 : PySem.W.keepIn K (.ref f1) = true)
    {f2 : Addr} {od2 an2 : Option Addr} {sl2 : Array (Option Value)} {oc2 kV2 dc2 pm2 cd2 ct2 : Value}
    (a2 : PySem.W.nsIn K mainGlobals "are_octets" = some (some (.ref f2))) (l2 : K.lookup f2 = some ⟨oc2, od2, .func (PySem.W.fnOf "are_octets" "are_octets" (defArgs s_are_octets) (defBody s_are_octets) (defScope s_are_octets) .none kV2 dc2 pm2 an2 cd2 ct2), sl2⟩) (c2 : PySem.W.codeIn K cd2 "are_octets" = true) (k2 : PySem.W.keepIn K (.ref f2) = true)
    {f3 : Addr} {od3 an3 : Option Addr} {sl3 : Array (Option Value)} {oc3 kV3 dc3 pm3 cd3 ct3 : Value}
    (a3 : PySem.W.nsIn K mainGlobals "check_octets" = some (some (.ref f3))) (l3 : K.lookup f3 = some ⟨oc3, od3, .func (PySem.W.fnOf "check_octets" "check_octets" (defArgs s_check_octets) (defBody s_check_octets) (defScope s_check_octets) .none kV3 dc3 pm3 an3 cd3 ct3), sl3⟩) (c3 : PySem.W.codeIn K cd3 "check_octets" = true) (k3 : PySem.W.keepIn K (.ref f3) = true)
    {f4 : Addr} {od4 an4 : Option Addr} {sl4 : Array (Option Value)} {oc4 kV4 dc4 pm4 cd4 ct4 : Value}
    (a4 : PySem.W.nsIn K mainGlobals "prefix_bits" = some (some (.ref f4))) (l4 : K.lookup f4 = some ⟨oc4, od4, .func (PySem.W.fnOf "prefix_bits" "prefix_bits" (defArgs s_prefix_bits) (defBody s_prefix_bits) (defScope s_prefix_bits) .none kV4 dc4 pm4 an4 cd4 ct4), sl4⟩) (c4 : PySem.W.codeIn K cd4 "prefix_bits" = true) (k4 : PySem.W.keepIn K (.ref f4) = true)
    {f5 : Addr} {od5 an5 : Option Addr} {sl5 : Array (Option Value)} {oc5 kV5 dc5 pm5 cd5 ct5 : Value}
    (a5 : PySem.W.findIn K (.ref C3) "__init__" = some (some (.ref f5))) (l5 : K.lookup f5 = some ⟨oc5, od5, .func (PySem.W.fnOf "__init__" "Reader.__init__" (defArgs s_Reader_init) (defBody s_Reader_init) (defScope s_Reader_init) .none kV5 dc5 pm5 an5 cd5 ct5), sl5⟩) (c5 : PySem.W.codeIn K cd5 "Reader.__init__" = true) (k5 : PySem.W.keepIn K (.ref f5) = true)
    (i5 : PySem.W.isFn K (.ref f5) = true) (t5 : PySem.W.typeIn K (.ref f5) = some (.type "function"))
    {f6 : Addr} {od6 an6 : Option Addr} {sl6 : Array (Option Value)} {oc6 kV6 dc6 pm6 cd6 ct6 : Value}
    (a6 : PySem.W.findIn K (.ref C3) "at_end" = some (some (.ref f6))) (l6 : K.lookup f6 = some ⟨oc6, od6, .func (PySem.W.fnOf "at_end" "Reader.at_end" (defArgs s_Reader_at_end) (defBody s_Reader_at_end) (defScope s_Reader_at_end) .none kV6 dc6 pm6 an6 cd6 ct6), sl6⟩) (c6 : PySem.W.codeIn K cd6 "Reader.at_end" = true) (k6 : PySem.W.keepIn K (.ref f6) = true)
    (i6 : PySem.W.isFn K (.ref f6) = true) (t6 : PySem.W.typeIn K (.ref f6) = some (.type "function"))
    {f7 : Addr} {od7 an7 : Option Addr} {sl7 : Array (Option Value)} {oc7 kV7 dc7 pm7 cd7 ct7 : Value}
    (a7 : PySem.W.findIn K (.ref C3) "look" = some (some (.ref f7))) (l7 : K.lookup f7 = some ⟨oc7, od7, .func (PySem.W.fnOf "look" "Reader.look" (defArgs s_Reader_look) (defBody s_Reader_look) (defScope s_Reader_look) .none kV7 dc7 pm7 an7 cd7 ct7), sl7⟩) (c7 : PySem.W.codeIn K cd7 "Reader.look" = true) (k7 : PySem.W.keepIn K (.ref f7) = true)
    (i7 : PySem.W.isFn K (.ref f7) = true) (t7 : PySem.W.typeIn K (.ref f7) = some (.type "function"))
    {f8 : Addr} {od8 an8 : Option Addr} {sl8 : Array (Option Value)} {oc8 kV8 dc8 pm8 cd8 ct8 : Value}
    (a8 : PySem.W.findIn K (.ref C3) "accept" = some (some (.ref f8))) (l8 : K.lookup f8 = some ⟨oc8, od8, .func (PySem.W.fnOf "accept" "Reader.accept" (defArgs s_Reader_accept) (defBody s_Reader_accept) (defScope s_Reader_accept) .none kV8 dc8 pm8 an8 cd8 ct8), sl8⟩) (c8 : PySem.W.codeIn K cd8 "Reader.accept" = true) (k8 : PySem.W.keepIn K (.ref f8) = true)
    (i8 : PySem.W.isFn K (.ref f8) = true) (t8 : PySem.W.typeIn K (.ref f8) = some (.type "function"))
    {f9 : Addr} {od9 an9 : Option Addr} {sl9 : Array (Option Value)} {oc9 kV9 dc9 pm9 cd9 ct9 : Value}
    (a9 : PySem.W.findIn K (.ref C3) "finish" = some (some (.ref f9))) (l9 : K.lookup f9 = some ⟨oc9, od9, .func (PySem.W.fnOf "finish" "Reader.finish" (defArgs s_Reader_finish) (defBody s_Reader_finish) (defScope s_Reader_finish) .none kV9 dc9 pm9 an9 cd9 ct9), sl9⟩) (c9 : PySem.W.codeIn K cd9 "Reader.finish" = true) (k9 : PySem.W.keepIn K (.ref f9) = true)
    (i9 : PySem.W.isFn K (.ref f9) = true) (t9 : PySem.W.typeIn K (.ref f9) = some (.type "function"))
    {f10 : Addr} {od10 an10 : Option Addr} {sl10 : Array (Option Value)} {oc10 kV10 dc10 pm10 cd10 ct10 : Value}
    (a10 : PySem.W.findIn K (.ref C3) "take_number" = some (some (.ref f10))) (l10 : K.lookup f10 = some ⟨oc10, od10, .func (PySem.W.fnOf "take_number" "Reader.take_number" (defArgs s_Reader_take_number) (defBody s_Reader_take_number) (defScope s_Reader_take_number) .none kV10 dc10 pm10 an10 cd10 ct10), sl10⟩) (c10 : PySem.W.codeIn K cd10 "Reader.take_number" = true) (k10 : PySem.W.keepIn K (.ref f10) = true)
    (i10 : PySem.W.isFn K (.ref f10) = true) (t10 : PySem.W.typeIn K (.ref f10) = some (.type "function"))
    {f11 : Addr} {od11 an11 : Option Addr} {sl11 : Array (Option Value)} {oc11 kV11 dc11 pm11 cd11 ct11 : Value}
    (a11 : PySem.W.findIn K (.ref C3) "take_rest" = some (some (.ref f11))) (l11 : K.lookup f11 = some ⟨oc11, od11, .func (PySem.W.fnOf "take_rest" "Reader.take_rest" (defArgs s_Reader_take_rest) (defBody s_Reader_take_rest) (defScope s_Reader_take_rest) .none kV11 dc11 pm11 an11 cd11 ct11), sl11⟩) (c11 : PySem.W.codeIn K cd11 "Reader.take_rest" = true) (k11 : PySem.W.keepIn K (.ref f11) = true)
    (i11 : PySem.W.isFn K (.ref f11) = true) (t11 : PySem.W.typeIn K (.ref f11) = some (.type "function"))
    {f12 : Addr} {od12 an12 : Option Addr} {sl12 : Array (Option Value)} {oc12 kV12 dc12 pm12 cd12 ct12 : Value}
    (a12 : PySem.W.findIn K (.ref C3) "take_string" = some (some (.ref f12))) (l12 : K.lookup f12 = some ⟨oc12, od12, .func (PySem.W.fnOf "take_string" "Reader.take_string" (defArgs s_Reader_take_string) (defBody s_Reader_take_string) (defScope s_Reader_take_string) .none kV12 dc12 pm12 an12 cd12 ct12), sl12⟩) (c12 : PySem.W.codeIn K cd12 "Reader.take_string" = true) (k12 : PySem.W.keepIn K (.ref f12) = true)
    (i12 : PySem.W.isFn K (.ref f12) = true) (t12 : PySem.W.typeIn K (.ref f12) = some (.type "function"))
    {f13 : Addr} {od13 an13 : Option Addr} {sl13 : Array (Option Value)} {oc13 kV13 dc13 pm13 cd13 ct13 : Value}
    (a13 : PySem.W.findIn K (.ref C3) "take_name" = some (some (.ref f13))) (l13 : K.lookup f13 = some ⟨oc13, od13, .func (PySem.W.fnOf "take_name" "Reader.take_name" (defArgs s_Reader_take_name) (defBody s_Reader_take_name) (defScope s_Reader_take_name) .none kV13 dc13 pm13 an13 cd13 ct13), sl13⟩) (c13 : PySem.W.codeIn K cd13 "Reader.take_name" = true) (k13 : PySem.W.keepIn K (.ref f13) = true)
    (i13 : PySem.W.isFn K (.ref f13) = true) (t13 : PySem.W.typeIn K (.ref f13) = some (.type "function"))
    {f14 : Addr} {od14 an14 : Option Addr} {sl14 : Array (Option Value)} {oc14 kV14 dc14 pm14 cd14 ct14 : Value}
    (a14 : PySem.W.findIn K (.ref C3) "take_value" = some (some (.ref f14))) (l14 : K.lookup f14 = some ⟨oc14, od14, .func (PySem.W.fnOf "take_value" "Reader.take_value" (defArgs s_Reader_take_value) (defBody s_Reader_take_value) (defScope s_Reader_take_value) .none kV14 dc14 pm14 an14 cd14 ct14), sl14⟩) (c14 : PySem.W.codeIn K cd14 "Reader.take_value" = true) (k14 : PySem.W.keepIn K (.ref f14) = true)
    (i14 : PySem.W.isFn K (.ref f14) = true) (t14 : PySem.W.typeIn K (.ref f14) = some (.type "function"))
    {f15 : Addr} {od15 an15 : Option Addr} {sl15 : Array (Option Value)} {oc15 kV15 dc15 pm15 cd15 ct15 : Value}
    (a15 : PySem.W.nsIn K mainGlobals "read_instruction" = some (some (.ref f15))) (l15 : K.lookup f15 = some ⟨oc15, od15, .func (PySem.W.fnOf "read_instruction" "read_instruction" (defArgs s_read_instruction) (defBody s_read_instruction) (defScope s_read_instruction) .none kV15 dc15 pm15 an15 cd15 ct15), sl15⟩) (c15 : PySem.W.codeIn K cd15 "read_instruction" = true) (k15 : PySem.W.keepIn K (.ref f15) = true)
    {f16 : Addr} {od16 an16 : Option Addr} {sl16 : Array (Option Value)} {oc16 kV16 dc16 pm16 cd16 ct16 : Value}
    (a16 : PySem.W.nsIn K mainGlobals "take_instruction" = some (some (.ref f16))) (l16 : K.lookup f16 = some ⟨oc16, od16, .func (PySem.W.fnOf "take_instruction" "take_instruction" (defArgs s_take_instruction) (defBody s_take_instruction) (defScope s_take_instruction) .none kV16 dc16 pm16 an16 cd16 ct16), sl16⟩) (c16 : PySem.W.codeIn K cd16 "take_instruction" = true) (k16 : PySem.W.keepIn K (.ref f16) = true)
    {f17 : Addr} {od17 an17 : Option Addr} {sl17 : Array (Option Value)} {oc17 kV17 dc17 pm17 cd17 ct17 : Value}
    (a17 : PySem.W.nsIn K mainGlobals "take_source" = some (some (.ref f17))) (l17 : K.lookup f17 = some ⟨oc17, od17, .func (PySem.W.fnOf "take_source" "take_source" (defArgs s_take_source) (defBody s_take_source) (defScope s_take_source) .none kV17 dc17 pm17 an17 cd17 ct17), sl17⟩) (c17 : PySem.W.codeIn K cd17 "take_source" = true) (k17 : PySem.W.keepIn K (.ref f17) = true)
    {f18 : Addr} {od18 an18 : Option Addr} {sl18 : Array (Option Value)} {oc18 kV18 dc18 pm18 cd18 ct18 : Value}
    (a18 : PySem.W.nsIn K mainGlobals "read_answer" = some (some (.ref f18))) (l18 : K.lookup f18 = some ⟨oc18, od18, .func (PySem.W.fnOf "read_answer" "read_answer" (defArgs s_read_answer) (defBody s_read_answer) (defScope s_read_answer) .none kV18 dc18 pm18 an18 cd18 ct18), sl18⟩) (c18 : PySem.W.codeIn K cd18 "read_answer" = true) (k18 : PySem.W.keepIn K (.ref f18) = true)
    {f19 : Addr} {od19 an19 : Option Addr} {sl19 : Array (Option Value)} {oc19 kV19 dc19 pm19 cd19 ct19 : Value}
    (a19 : PySem.W.nsIn K mainGlobals "take_answer" = some (some (.ref f19))) (l19 : K.lookup f19 = some ⟨oc19, od19, .func (PySem.W.fnOf "take_answer" "take_answer" (defArgs s_take_answer) (defBody s_take_answer) (defScope s_take_answer) .none kV19 dc19 pm19 an19 cd19 ct19), sl19⟩) (c19 : PySem.W.codeIn K cd19 "take_answer" = true) (k19 : PySem.W.keepIn K (.ref f19) = true)
    {f20 : Addr} {od20 an20 : Option Addr} {sl20 : Array (Option Value)} {oc20 kV20 dc20 pm20 cd20 ct20 : Value}
    (a20 : PySem.W.nsIn K mainGlobals "_law_open" = some (some (.ref f20))) (l20 : K.lookup f20 = some ⟨oc20, od20, .func (PySem.W.fnOf "_law_open" "_law_open" (defArgs s_law_open) (defBody s_law_open) (defScope s_law_open) .none kV20 dc20 pm20 an20 cd20 ct20), sl20⟩) (c20 : PySem.W.codeIn K cd20 "_law_open" = true) (k20 : PySem.W.keepIn K (.ref f20) = true)
    {f21 : Addr} {od21 an21 : Option Addr} {sl21 : Array (Option Value)} {oc21 kV21 dc21 pm21 cd21 ct21 : Value}
    (a21 : PySem.W.nsIn K mainGlobals "_law_spread" = some (some (.ref f21))) (l21 : K.lookup f21 = some ⟨oc21, od21, .func (PySem.W.fnOf "_law_spread" "_law_spread" (defArgs s_law_spread) (defBody s_law_spread) (defScope s_law_spread) .none kV21 dc21 pm21 an21 cd21 ct21), sl21⟩) (c21 : PySem.W.codeIn K cd21 "_law_spread" = true) (k21 : PySem.W.keepIn K (.ref f21) = true)
    {f22 : Addr} {od22 an22 : Option Addr} {sl22 : Array (Option Value)} {oc22 kV22 dc22 pm22 cd22 ct22 : Value}
    (a22 : PySem.W.nsIn K mainGlobals "_law_take" = some (some (.ref f22))) (l22 : K.lookup f22 = some ⟨oc22, od22, .func (PySem.W.fnOf "_law_take" "_law_take" (defArgs s_law_take) (defBody s_law_take) (defScope s_law_take) .none kV22 dc22 pm22 an22 cd22 ct22), sl22⟩) (c22 : PySem.W.codeIn K cd22 "_law_take" = true) (k22 : PySem.W.keepIn K (.ref f22) = true)
    {f23 : Addr} {od23 an23 : Option Addr} {sl23 : Array (Option Value)} {oc23 kV23 dc23 pm23 cd23 ct23 : Value}
    (a23 : PySem.W.nsIn K mainGlobals "_law_same" = some (some (.ref f23))) (l23 : K.lookup f23 = some ⟨oc23, od23, .func (PySem.W.fnOf "_law_same" "_law_same" (defArgs s_law_same) (defBody s_law_same) (defScope s_law_same) .none kV23 dc23 pm23 an23 cd23 ct23), sl23⟩) (c23 : PySem.W.codeIn K cd23 "_law_same" = true) (k23 : PySem.W.keepIn K (.ref f23) = true)
    {f24 : Addr} {od24 an24 : Option Addr} {sl24 : Array (Option Value)} {oc24 kV24 dc24 pm24 cd24 ct24 : Value}
    (a24 : PySem.W.nsIn K mainGlobals "_law_one_of" = some (some (.ref f24))) (l24 : K.lookup f24 = some ⟨oc24, od24, .func (PySem.W.fnOf "_law_one_of" "_law_one_of" (defArgs s_law_one_of) (defBody s_law_one_of) (defScope s_law_one_of) .none kV24 dc24 pm24 an24 cd24 ct24), sl24⟩) (c24 : PySem.W.codeIn K cd24 "_law_one_of" = true) (k24 : PySem.W.keepIn K (.ref f24) = true)
    {f25 : Addr} {od25 an25 : Option Addr} {sl25 : Array (Option Value)} {oc25 kV25 dc25 pm25 cd25 ct25 : Value}
    (a25 : PySem.W.nsIn K mainGlobals "_law_signs" = some (some (.ref f25))) (l25 : K.lookup f25 = some ⟨oc25, od25, .func (PySem.W.fnOf "_law_signs" "_law_signs" (defArgs s_law_signs) (defBody s_law_signs) (defScope s_law_signs) .none kV25 dc25 pm25 an25 cd25 ct25), sl25⟩) (c25 : PySem.W.codeIn K cd25 "_law_signs" = true) (k25 : PySem.W.keepIn K (.ref f25) = true)
    {f26 : Addr} {od26 an26 : Option Addr} {sl26 : Array (Option Value)} {oc26 kV26 dc26 pm26 cd26 ct26 : Value}
    (a26 : PySem.W.nsIn K mainGlobals "_law_draw_text" = some (some (.ref f26))) (l26 : K.lookup f26 = some ⟨oc26, od26, .func (PySem.W.fnOf "_law_draw_text" "_law_draw_text" (defArgs s_law_draw_text) (defBody s_law_draw_text) (defScope s_law_draw_text) .none kV26 dc26 pm26 an26 cd26 ct26), sl26⟩) (c26 : PySem.W.codeIn K cd26 "_law_draw_text" = true) (k26 : PySem.W.keepIn K (.ref f26) = true)
    {f27 : Addr} {od27 an27 : Option Addr} {sl27 : Array (Option Value)} {oc27 kV27 dc27 pm27 cd27 ct27 : Value}
    (a27 : PySem.W.nsIn K mainGlobals "_law_draw_number" = some (some (.ref f27))) (l27 : K.lookup f27 = some ⟨oc27, od27, .func (PySem.W.fnOf "_law_draw_number" "_law_draw_number" (defArgs s_law_draw_number) (defBody s_law_draw_number) (defScope s_law_draw_number) .none kV27 dc27 pm27 an27 cd27 ct27), sl27⟩) (c27 : PySem.W.codeIn K cd27 "_law_draw_number" = true) (k27 : PySem.W.keepIn K (.ref f27) = true)
    {f28 : Addr} {od28 an28 : Option Addr} {sl28 : Array (Option Value)} {oc28 kV28 dc28 pm28 cd28 ct28 : Value}
    (a28 : PySem.W.nsIn K mainGlobals "_law_number_octets" = some (some (.ref f28))) (l28 : K.lookup f28 = some ⟨oc28, od28, .func (PySem.W.fnOf "_law_number_octets" "_law_number_octets" (defArgs s_law_number_octets) (defBody s_law_number_octets) (defScope s_law_number_octets) .none kV28 dc28 pm28 an28 cd28 ct28), sl28⟩) (c28 : PySem.W.codeIn K cd28 "_law_number_octets" = true) (k28 : PySem.W.keepIn K (.ref f28) = true)
    {f29 : Addr} {od29 an29 : Option Addr} {sl29 : Array (Option Value)} {oc29 kV29 dc29 pm29 cd29 ct29 : Value}
    (a29 : PySem.W.nsIn K mainGlobals "_law_code" = some (some (.ref f29))) (l29 : K.lookup f29 = some ⟨oc29, od29, .func (PySem.W.fnOf "_law_code" "_law_code" (defArgs s_law_code) (defBody s_law_code) (defScope s_law_code) .none kV29 dc29 pm29 an29 cd29 ct29), sl29⟩) (c29 : PySem.W.codeIn K cd29 "_law_code" = true) (k29 : PySem.W.keepIn K (.ref f29) = true)
    {f30 : Addr} {od30 an30 : Option Addr} {sl30 : Array (Option Value)} {oc30 kV30 dc30 pm30 cd30 ct30 : Value}
    (a30 : PySem.W.nsIn K mainGlobals "_law_text_octets" = some (some (.ref f30))) (l30 : K.lookup f30 = some ⟨oc30, od30, .func (PySem.W.fnOf "_law_text_octets" "_law_text_octets" (defArgs s_law_text_octets) (defBody s_law_text_octets) (defScope s_law_text_octets) .none kV30 dc30 pm30 an30 cd30 ct30), sl30⟩) (c30 : PySem.W.codeIn K cd30 "_law_text_octets" = true) (k30 : PySem.W.keepIn K (.ref f30) = true)
    {f31 : Addr} {od31 an31 : Option Addr} {sl31 : Array (Option Value)} {oc31 kV31 dc31 pm31 cd31 ct31 : Value}
    (a31 : PySem.W.nsIn K mainGlobals "_law_instruction_octets" = some (some (.ref f31))) (l31 : K.lookup f31 = some ⟨oc31, od31, .func (PySem.W.fnOf "_law_instruction_octets" "_law_instruction_octets" (defArgs s_law_instruction_octets) (defBody s_law_instruction_octets) (defScope s_law_instruction_octets) .none kV31 dc31 pm31 an31 cd31 ct31), sl31⟩) (c31 : PySem.W.codeIn K cd31 "_law_instruction_octets" = true) (k31 : PySem.W.keepIn K (.ref f31) = true)
    {f32 : Addr} {od32 an32 : Option Addr} {sl32 : Array (Option Value)} {oc32 kV32 dc32 pm32 cd32 ct32 : Value}
    (a32 : PySem.W.nsIn K mainGlobals "_law_answer_octets" = some (some (.ref f32))) (l32 : K.lookup f32 = some ⟨oc32, od32, .func (PySem.W.fnOf "_law_answer_octets" "_law_answer_octets" (defArgs s_law_answer_octets) (defBody s_law_answer_octets) (defScope s_law_answer_octets) .none kV32 dc32 pm32 an32 cd32 ct32), sl32⟩) (c32 : PySem.W.codeIn K cd32 "_law_answer_octets" = true) (k32 : PySem.W.keepIn K (.ref f32) = true)
    {f33 : Addr} {od33 an33 : Option Addr} {sl33 : Array (Option Value)} {oc33 kV33 dc33 pm33 cd33 ct33 : Value}
    (a33 : PySem.W.nsIn K mainGlobals "_law_draw_instruction" = some (some (.ref f33))) (l33 : K.lookup f33 = some ⟨oc33, od33, .func (PySem.W.fnOf "_law_draw_instruction" "_law_draw_instruction" (defArgs s_law_draw_instruction) (defBody s_law_draw_instruction) (defScope s_law_draw_instruction) .none kV33 dc33 pm33 an33 cd33 ct33), sl33⟩) (c33 : PySem.W.codeIn K cd33 "_law_draw_instruction" = true) (k33 : PySem.W.keepIn K (.ref f33) = true)
    {f34 : Addr} {od34 an34 : Option Addr} {sl34 : Array (Option Value)} {oc34 kV34 dc34 pm34 cd34 ct34 : Value}
    (a34 : PySem.W.nsIn K mainGlobals "_law_draw_answer" = some (some (.ref f34))) (l34 : K.lookup f34 = some ⟨oc34, od34, .func (PySem.W.fnOf "_law_draw_answer" "_law_draw_answer" (defArgs s_law_draw_answer) (defBody s_law_draw_answer) (defScope s_law_draw_answer) .none kV34 dc34 pm34 an34 cd34 ct34), sl34⟩) (c34 : PySem.W.codeIn K cd34 "_law_draw_answer" = true) (k34 : PySem.W.keepIn K (.ref f34) = true)
    {f35 : Addr} {od35 an35 : Option Addr} {sl35 : Array (Option Value)} {oc35 kV35 dc35 pm35 cd35 ct35 : Value}
    (a35 : PySem.W.nsIn K mainGlobals "_law_read_number" = some (some (.ref f35))) (l35 : K.lookup f35 = some ⟨oc35, od35, .func (PySem.W.fnOf "_law_read_number" "_law_read_number" (defArgs s_law_read_number) (defBody s_law_read_number) (defScope s_law_read_number) .none kV35 dc35 pm35 an35 cd35 ct35), sl35⟩) (c35 : PySem.W.codeIn K cd35 "_law_read_number" = true) (k35 : PySem.W.keepIn K (.ref f35) = true)
    {f36 : Addr} {od36 an36 : Option Addr} {sl36 : Array (Option Value)} {oc36 kV36 dc36 pm36 cd36 ct36 : Value}
    (a36 : PySem.W.nsIn K mainGlobals "_law_read_text" = some (some (.ref f36))) (l36 : K.lookup f36 = some ⟨oc36, od36, .func (PySem.W.fnOf "_law_read_text" "_law_read_text" (defArgs s_law_read_text) (defBody s_law_read_text) (defScope s_law_read_text) .none kV36 dc36 pm36 an36 cd36 ct36), sl36⟩) (c36 : PySem.W.codeIn K cd36 "_law_read_text" = true) (k36 : PySem.W.keepIn K (.ref f36) = true)
    {f37 : Addr} {od37 an37 : Option Addr} {sl37 : Array (Option Value)} {oc37 kV37 dc37 pm37 cd37 ct37 : Value}
    (a37 : PySem.W.nsIn K mainGlobals "_law_read_pair" = some (some (.ref f37))) (l37 : K.lookup f37 = some ⟨oc37, od37, .func (PySem.W.fnOf "_law_read_pair" "_law_read_pair" (defArgs s_law_read_pair) (defBody s_law_read_pair) (defScope s_law_read_pair) .none kV37 dc37 pm37 an37 cd37 ct37), sl37⟩) (c37 : PySem.W.codeIn K cd37 "_law_read_pair" = true) (k37 : PySem.W.keepIn K (.ref f37) = true)
    {f38 : Addr} {od38 an38 : Option Addr} {sl38 : Array (Option Value)} {oc38 kV38 dc38 pm38 cd38 ct38 : Value}
    (a38 : PySem.W.nsIn K mainGlobals "_law_read_single" = some (some (.ref f38))) (l38 : K.lookup f38 = some ⟨oc38, od38, .func (PySem.W.fnOf "_law_read_single" "_law_read_single" (defArgs s_law_read_single) (defBody s_law_read_single) (defScope s_law_read_single) .none kV38 dc38 pm38 an38 cd38 ct38), sl38⟩) (c38 : PySem.W.codeIn K cd38 "_law_read_single" = true) (k38 : PySem.W.keepIn K (.ref f38) = true)
    {f39 : Addr} {od39 an39 : Option Addr} {sl39 : Array (Option Value)} {oc39 kV39 dc39 pm39 cd39 ct39 : Value}
    (a39 : PySem.W.nsIn K mainGlobals "_law_read_instruction" = some (some (.ref f39))) (l39 : K.lookup f39 = some ⟨oc39, od39, .func (PySem.W.fnOf "_law_read_instruction" "_law_read_instruction" (defArgs s_law_read_instruction) (defBody s_law_read_instruction) (defScope s_law_read_instruction) .none kV39 dc39 pm39 an39 cd39 ct39), sl39⟩) (c39 : PySem.W.codeIn K cd39 "_law_read_instruction" = true) (k39 : PySem.W.keepIn K (.ref f39) = true)
    {f40 : Addr} {od40 an40 : Option Addr} {sl40 : Array (Option Value)} {oc40 kV40 dc40 pm40 cd40 ct40 : Value}
    (a40 : PySem.W.nsIn K mainGlobals "_law_read_answer" = some (some (.ref f40))) (l40 : K.lookup f40 = some ⟨oc40, od40, .func (PySem.W.fnOf "_law_read_answer" "_law_read_answer" (defArgs s_law_read_answer) (defBody s_law_read_answer) (defScope s_law_read_answer) .none kV40 dc40 pm40 an40 cd40 ct40), sl40⟩) (c40 : PySem.W.codeIn K cd40 "_law_read_answer" = true) (k40 : PySem.W.keepIn K (.ref f40) = true)
    {f41 : Addr} {od41 an41 : Option Addr} {sl41 : Array (Option Value)} {oc41 kV41 dc41 pm41 cd41 ct41 : Value}
    (a41 : PySem.W.nsIn K mainGlobals "_law_whole" = some (some (.ref f41))) (l41 : K.lookup f41 = some ⟨oc41, od41, .func (PySem.W.fnOf "_law_whole" "_law_whole" (defArgs s_law_whole) (defBody s_law_whole) (defScope s_law_whole) .none kV41 dc41 pm41 an41 cd41 ct41), sl41⟩) (c41 : PySem.W.codeIn K cd41 "_law_whole" = true) (k41 : PySem.W.keepIn K (.ref f41) = true)
    {f42 : Addr} {od42 an42 : Option Addr} {sl42 : Array (Option Value)} {oc42 kV42 dc42 pm42 cd42 ct42 : Value}
    (a42 : PySem.W.nsIn K mainGlobals "_law_bent_octets" = some (some (.ref f42))) (l42 : K.lookup f42 = some ⟨oc42, od42, .func (PySem.W.fnOf "_law_bent_octets" "_law_bent_octets" (defArgs s_law_bent_octets) (defBody s_law_bent_octets) (defScope s_law_bent_octets) .none kV42 dc42 pm42 an42 cd42 ct42), sl42⟩) (c42 : PySem.W.codeIn K cd42 "_law_bent_octets" = true) (k42 : PySem.W.keepIn K (.ref f42) = true)
    {f43 : Addr} {od43 an43 : Option Addr} {sl43 : Array (Option Value)} {oc43 kV43 dc43 pm43 cd43 ct43 : Value}
    (a43 : PySem.W.nsIn K mainGlobals "_law_told" = some (some (.ref f43))) (l43 : K.lookup f43 = some ⟨oc43, od43, .func (PySem.W.fnOf "_law_told" "_law_told" (defArgs s_law_told) (defBody s_law_told) (defScope s_law_told) .none kV43 dc43 pm43 an43 cd43 ct43), sl43⟩) (c43 : PySem.W.codeIn K cd43 "_law_told" = true) (k43 : PySem.W.keepIn K (.ref f43) = true)
    {f44 : Addr} {od44 an44 : Option Addr} {sl44 : Array (Option Value)} {oc44 kV44 dc44 pm44 cd44 ct44 : Value}
    (a44 : PySem.W.nsIn K mainGlobals "law" = some (some (.ref f44))) (l44 : K.lookup f44 = some ⟨oc44, od44, .func (PySem.W.fnOf "law" "law" (defArgs s_law) (defBody s_law) (defScope s_law) .none kV44 dc44 pm44 an44 cd44 ct44), sl44⟩) (c44 : PySem.W.codeIn K cd44 "law" = true) (k44 : PySem.W.keepIn K (.ref f44) = true)
    {tk0 : Tok} (v0 : PySem.W.nsIn K mainGlobals "NUMBER_MOST" = some (some (.int 9999 tk0)))
    {tk1 : Tok} (v1 : PySem.W.nsIn K mainGlobals "STREAM_MOST" = some (some (.int 20 tk1)))
    {tk2 : Tok} (v2 : PySem.W.nsIn K mainGlobals "NAME_MOST" = some (some (.int 20 tk2)))
    {tk3 : Tok} (v3 : PySem.W.nsIn K mainGlobals "VALUE_MOST" = some (some (.int 40 tk3)))
    {tk4 : Tok} (v4 : PySem.W.nsIn K mainGlobals "VALUE_PREFIX" = some (some (.int 7 tk4)))
    {ad5 : Addr} {es5 : Array DictEntry} {nd5 : Nat} (v5 : PySem.W.nsIn K mainGlobals "CHARACTERS" = some (some (.ref ad5))) (w5 : K.lookup ad5 = some ⟨.type "dict", none, .dict es5 nd5, #[]⟩) (e5 : EntI es5.toList chars) (q5 : (ad5 == sysModules) = false)
    (z0 : PySem.W.nsIn K mainGlobals "all" = some none)
    (z1 : PySem.W.nsIn K mainGlobals "bool" = some none)
    (z2 : PySem.W.nsIn K mainGlobals "enumerate" = some none)
    (z3 : PySem.W.nsIn K mainGlobals "int" = some none)
    (z4 : PySem.W.nsIn K mainGlobals "isinstance" = some none)
    (z5 : PySem.W.nsIn K mainGlobals "len" = some none)
    (z6 : PySem.W.nsIn K mainGlobals "list" = some none)
    (z7 : PySem.W.nsIn K mainGlobals "max" = some none)
    (z8 : PySem.W.nsIn K mainGlobals "min" = some none)
    (z9 : PySem.W.nsIn K mainGlobals "range" = some none)
    (z10 : PySem.W.nsIn K mainGlobals "repr" = some none)
    (z11 : PySem.W.nsIn K mainGlobals "str" = some none)
    (z12 : PySem.W.nsIn K mainGlobals "tuple" = some none)
    (z13 : PySem.W.nsIn K mainGlobals "zip" = some none)
    {qt0 Pt0 : Addr} {qy0 : Value} {qd0 : Option Addr} {qv0 : Array Value} {qs0 : Array (Option Value)} (tc0 : cd44 = .ref qt0) (tk_0 : K.lookup qt0 = some ⟨qy0, qd0, .fields qv0, qs0⟩) (tv0 : (qv0[11]? : Option Value) = some (.ref Pt0)) (tn0 : K.lookup Pt0 = none)
    : ∃ (cs : List (Addr × Addr)) (fd : FuncData), (["law"] : List Str).map (PySem.W.tabIn K) = cs.map some ∧ (∀ p ∈ cs, K.lookup p.2 = none) ∧ (∀ (s : Shared) (v : Value), BindsTo s fd ⟨[v], []⟩ [("script", v)]) ∧ TopOkT l.prog w K mg cs 13 fa fd ["script"] (spLaw8 K cs) := by
  have e := hfa.symm.trans (PySem.W.mg_of X G a44)
  cases e
  have F0 := fun_mk (st := s_NoOctets_init) l0 c0 k0
  have b0 := F0.binds (ps := ["self", "place"]) fun _ _ _ _ _ _ us hl => match us, hl with | [_, _], _ => rfl
  have F1 := fun_mk (st := s_is_between) l1 c1 k1
  have b1 := F1.binds (ps := ["thing", "least", "most"]) fun _ _ _ _ _ _ us hl => match us, hl with | [_, _, _], _ => rfl
  have F2 := fun_mk (st := s_are_octets) l2 c2 k2
  have b2 := F2.binds (ps := ["thing"]) fun _ _ _ _ _ _ us hl => match us, hl with | [_], _ => rfl
  have F3 := fun_mk (st := s_check_octets) l3 c3 k3
  have b3 := F3.binds (ps := ["octets"]) fun _ _ _ _ _ _ us hl => match us, hl with | [_], _ => rfl
  have F4 := fun_mk (st := s_prefix_bits) l4 c4 k4
  have b4 := F4.binds (ps := ["prefix"]) fun _ _ _ _ _ _ us hl => match us, hl with | [_], _ => rfl
  have F5 := fun_mk (st := s_Reader_init) l5 c5 k5
  have b5 := F5.binds (ps := ["self", "octets"]) fun _ _ _ _ _ _ us hl => match us, hl with | [_, _], _ => rfl
  have F6 := fun_mk (st := s_Reader_at_end) l6 c6 k6
  have b6 := F6.binds (ps := ["self"]) fun _ _ _ _ _ _ us hl => match us, hl with | [_], _ => rfl
  have F7 := fun_mk (st := s_Reader_look) l7 c7 k7
  have b7 := F7.binds (ps := ["self"]) fun _ _ _ _ _ _ us hl => match us, hl with | [_], _ => rfl
  have F8 := fun_mk (st := s_Reader_accept) l8 c8 k8
  have b8 := F8.binds (ps := ["self", "fits"]) fun _ _ _ _ _ _ us hl => match us, hl with | [_, _], _ => rfl
  have F9 := fun_mk (st := s_Reader_finish) l9 c9 k9
  have b9 := F9.binds (ps := ["self"]) fun _ _ _ _ _ _ us hl => match us, hl with | [_], _ => rfl
  have F10 := fun_mk (st := s_Reader_take_number) l10 c10 k10
  have b10 := F10.binds (ps := ["self", "prefix", "mark", "least", "most"]) fun _ _ _ _ _ _ us hl => match us, hl with | [_, _, _, _, _], _ => rfl
  have F11 := fun_mk (st := s_Reader_take_rest) l11 c11 k11
  have b11 := F11.binds (ps := ["self", "most"]) fun _ _ _ _ _ _ us hl => match us, hl with | [_, _], _ => rfl
  have F12 := fun_mk (st := s_Reader_take_string) l12 c12 k12
  have b12 := F12.binds (ps := ["self", "prefix", "mark", "least", "most"]) fun _ _ _ _ _ _ us hl => match us, hl with | [_, _, _, _, _], _ => rfl
  have F13 := fun_mk (st := s_Reader_take_name) l13 c13 k13
  have b13 := F13.binds (ps := ["self", "prefix", "mark"]) fun _ _ _ _ _ _ us hl => match us, hl with | [_, _, _], _ => rfl
  have F14 := fun_mk (st := s_Reader_take_value) l14 c14 k14
  have b14 := F14.binds (ps := ["self"]) fun _ _ _ _ _ _ us hl => match us, hl with | [_], _ => rfl
  have F15 := fun_mk (st := s_read_instruction) l15 c15 k15
  have b15 := F15.binds (ps := ["octets"]) fun _ _ _ _ _ _ us hl => match us, hl with | [_], _ => rfl
  have F16 := fun_mk (st := s_take_instruction) l16 c16 k16
  have b16 := F16.binds (ps := ["reader"]) fun _ _ _ _ _ _ us hl => match us, hl with | [_], _ => rfl
  have F17 := fun_mk (st := s_take_source) l17 c17 k17
  have b17 := F17.binds (ps := ["reader"]) fun _ _ _ _ _ _ us hl => match us, hl with | [_], _ => rfl
  have F18 := fun_mk (st := s_read_answer) l18 c18 k18
  have b18 := F18.binds (ps := ["octets"]) fun _ _ _ _ _ _ us hl => match us, hl with | [_], _ => rfl
  have F19 := fun_mk (st := s_take_answer) l19 c19 k19
  have b19 := F19.binds (ps := ["reader"]) fun _ _ _ _ _ _ us hl => match us, hl with | [_], _ => rfl
  have F20 := fun_mk (st := s_law_open) l20 c20 k20
  have b20 := F20.binds (ps := ["script"]) fun _ _ _ _ _ _ us hl => match us, hl with | [_], _ => rfl
  have F21 := fun_mk (st := s_law_spread) l21 c21 k21
  have b21 := F21.binds (ps := ["cell", "at"]) fun _ _ _ _ _ _ us hl => match us, hl with | [_, _], _ => rfl
  have F22 := fun_mk (st := s_law_take) l22 c22 k22
  have b22 := F22.binds (ps := ["pen", "amount"]) fun _ _ _ _ _ _ us hl => match us, hl with | [_, _], _ => rfl
  have F23 := fun_mk (st := s_law_same) l23 c23 k23
  have b23 := F23.binds (ps := ["found", "due"]) fun _ _ _ _ _ _ us hl => match us, hl with | [_, _], _ => rfl
  have F24 := fun_mk (st := s_law_one_of) l24 c24 k24
  have b24 := F24.binds (ps := ["pen", "some"]) fun _ _ _ _ _ _ us hl => match us, hl with | [_, _], _ => rfl
  have F25 := fun_mk (st := s_law_signs) l25 c25 k25
  have b25 := F25.binds (ps := []) fun _ _ _ _ _ _ us hl => match us, hl with | [], _ => rfl
  have F26 := fun_mk (st := s_law_draw_text) l26 c26 k26
  have b26 := F26.binds (ps := ["pen", "least", "most"]) fun _ _ _ _ _ _ us hl => match us, hl with | [_, _, _], _ => rfl
  have F27 := fun_mk (st := s_law_draw_number) l27 c27 k27
  have b27 := F27.binds (ps := ["pen"]) fun _ _ _ _ _ _ us hl => match us, hl with | [_], _ => rfl
  have F28 := fun_mk (st := s_law_number_octets) l28 c28 k28
  have b28 := F28.binds (ps := ["number", "prefix", "mark"]) fun _ _ _ _ _ _ us hl => match us, hl with | [_, _, _], _ => rfl
  have F29 := fun_mk (st := s_law_code) l29 c29 k29
  have b29 := F29.binds (ps := ["sign"]) fun _ _ _ _ _ _ us hl => match us, hl with | [_], _ => rfl
  have F30 := fun_mk (st := s_law_text_octets) l30 c30 k30
  have b30 := F30.binds (ps := ["text", "prefix", "mark"]) fun _ _ _ _ _ _ us hl => match us, hl with | [_, _, _], _ => rfl
  have F31 := fun_mk (st := s_law_instruction_octets) l31 c31 k31
  have b31 := F31.binds (ps := ["one"]) fun _ _ _ _ _ _ us hl => match us, hl with | [_], _ => rfl
  have F32 := fun_mk (st := s_law_answer_octets) l32 c32 k32
  have b32 := F32.binds (ps := ["one"]) fun _ _ _ _ _ _ us hl => match us, hl with | [_], _ => rfl
  have F33 := fun_mk (st := s_law_draw_instruction) l33 c33 k33
  have b33 := F33.binds (ps := ["pen"]) fun _ _ _ _ _ _ us hl => match us, hl with | [_], _ => rfl
  have F34 := fun_mk (st := s_law_draw_answer) l34 c34 k34
  have b34 := F34.binds (ps := ["pen"]) fun _ _ _ _ _ _ us hl => match us, hl with | [_], _ => rfl
  have F35 := fun_mk (st := s_law_read_number) l35 c35 k35
  have b35 := F35.binds (ps := ["octets", "place", "prefix", "least", "most"]) fun _ _ _ _ _ _ us hl => match us, hl with | [_, _, _, _, _], _ => rfl
  have F36 := fun_mk (st := s_law_read_text) l36 c36 k36
  have b36 := F36.binds (ps := ["octets", "place", "prefix", "least", "most"]) fun _ _ _ _ _ _ us hl => match us, hl with | [_, _, _, _, _], _ => rfl
  have F37 := fun_mk (st := s_law_read_pair) l37 c37 k37
  have b37 := F37.binds (ps := ["octets", "place", "front", "head"]) fun _ _ _ _ _ _ us hl => match us, hl with | [_, _, _, _], _ => rfl
  have F38 := fun_mk (st := s_law_read_single) l38 c38 k38
  have b38 := F38.binds (ps := ["octets", "place", "front", "head"]) fun _ _ _ _ _ _ us hl => match us, hl with | [_, _, _, _], _ => rfl
  have F39 := fun_mk (st := s_law_read_instruction) l39 c39 k39
  have b39 := F39.binds (ps := ["octets"]) fun _ _ _ _ _ _ us hl => match us, hl with | [_], _ => rfl
  have F40 := fun_mk (st := s_law_read_answer) l40 c40 k40
  have b40 := F40.binds (ps := ["octets"]) fun _ _ _ _ _ _ us hl => match us, hl with | [_], _ => rfl
  have F41 := fun_mk (st := s_law_whole) l41 c41 k41
  have b41 := F41.binds (ps := ["told", "octets"]) fun _ _ _ _ _ _ us hl => match us, hl with | [_, _], _ => rfl
  have F42 := fun_mk (st := s_law_bent_octets) l42 c42 k42
  have b42 := F42.binds (ps := ["pen", "octets"]) fun _ _ _ _ _ _ us hl => match us, hl with | [_, _], _ => rfl
  have F43 := fun_mk (st := s_law_told) l43 c43 k43
  have b43 := F43.binds (ps := ["read", "octets"]) fun _ _ _ _ _ _ us hl => match us, hl with | [_, _], _ => rfl
  have F44 := fun_mk (st := s_law) l44 c44 k44
  have b44 := F44.binds (ps := ["script"]) fun _ _ _ _ _ _ us hl => match us, hl with | [_], _ => rfl
  let T : Txt K mg := {
    f_NoOctets_init := f0
    d_NoOctets_init := _
    F_NoOctets_init := F0
    b_NoOctets_init := b0
    f_is_between := f1
    d_is_between := _
    F_is_between := F1
    b_is_between := b1
    g_is_between := PySem.W.mg_of X G a1
    f_are_octets := f2
    d_are_octets := _
    F_are_octets := F2
    b_are_octets := b2
    g_are_octets := PySem.W.mg_of X G a2
    f_check_octets := f3
    d_check_octets := _
    F_check_octets := F3
    b_check_octets := b3
    g_check_octets := PySem.W.mg_of X G a3
    f_prefix_bits := f4
    d_prefix_bits := _
    F_prefix_bits := F4
    b_prefix_bits := b4
    g_prefix_bits := PySem.W.mg_of X G a4
    f_Reader_init := f5
    d_Reader_init := _
    F_Reader_init := F5
    b_Reader_init := b5
    f_Reader_at_end := f6
    d_Reader_at_end := _
    F_Reader_at_end := F6
    b_Reader_at_end := b6
    f_Reader_look := f7
    d_Reader_look := _
    F_Reader_look := F7
    b_Reader_look := b7
    f_Reader_accept := f8
    d_Reader_accept := _
    F_Reader_accept := F8
    b_Reader_accept := b8
    f_Reader_finish := f9
    d_Reader_finish := _
    F_Reader_finish := F9
    b_Reader_finish := b9
    f_Reader_take_number := f10
    d_Reader_take_number := _
    F_Reader_take_number := F10
    b_Reader_take_number := b10
    f_Reader_take_rest := f11
    d_Reader_take_rest := _
    F_Reader_take_rest := F11
    b_Reader_take_rest := b11
    f_Reader_take_string := f12
    d_Reader_take_string := _
    F_Reader_take_string := F12
    b_Reader_take_string := b12
    f_Reader_take_name := f13
    d_Reader_take_name := _
    F_Reader_take_name := F13
    b_Reader_take_name := b13
    f_Reader_take_value := f14
    d_Reader_take_value := _
    F_Reader_take_value := F14
    b_Reader_take_value := b14
    f_read_instruction := f15
    d_read_instruction := _
    F_read_instruction := F15
    b_read_instruction := b15
    g_read_instruction := PySem.W.mg_of X G a15
    f_take_instruction := f16
    d_take_instruction := _
    F_take_instruction := F16
    b_take_instruction := b16
    g_take_instruction := PySem.W.mg_of X G a16
    f_take_source := f17
    d_take_source := _
    F_take_source := F17
    b_take_source := b17
    g_take_source := PySem.W.mg_of X G a17
    f_read_answer := f18
    d_read_answer := _
    F_read_answer := F18
    b_read_answer := b18
    g_read_answer := PySem.W.mg_of X G a18
    f_take_answer := f19
    d_take_answer := _
    F_take_answer := F19
    b_take_answer := b19
    g_take_answer := PySem.W.mg_of X G a19
    f_law_open := f20
    d_law_open := _
    F_law_open := F20
    b_law_open := b20
    g_law_open := PySem.W.mg_of X G a20
    f_law_spread := f21
    d_law_spread := _
    F_law_spread := F21
    b_law_spread := b21
    g_law_spread := PySem.W.mg_of X G a21
    f_law_take := f22
    d_law_take := _
    F_law_take := F22
    b_law_take := b22
    g_law_take := PySem.W.mg_of X G a22
    f_law_same := f23
    d_law_same := _
    F_law_same := F23
    b_law_same := b23
    g_law_same := PySem.W.mg_of X G a23
    f_law_one_of := f24
    d_law_one_of := _
    F_law_one_of := F24
    b_law_one_of := b24
    g_law_one_of := PySem.W.mg_of X G a24
    f_law_signs := f25
    d_law_signs := _
    F_law_signs := F25
    b_law_signs := b25
    g_law_signs := PySem.W.mg_of X G a25
    f_law_draw_text := f26
    d_law_draw_text := _
    F_law_draw_text := F26
    b_law_draw_text := b26
    g_law_draw_text := PySem.W.mg_of X G a26
    f_law_draw_number := f27
    d_law_draw_number := _
    F_law_draw_number := F27
    b_law_draw_number := b27
    g_law_draw_number := PySem.W.mg_of X G a27
    f_law_number_octets := f28
    d_law_number_octets := _
    F_law_number_octets := F28
    b_law_number_octets := b28
    g_law_number_octets := PySem.W.mg_of X G a28
    f_law_code := f29
    d_law_code := _
    F_law_code := F29
    b_law_code := b29
    g_law_code := PySem.W.mg_of X G a29
    f_law_text_octets := f30
    d_law_text_octets := _
    F_law_text_octets := F30
    b_law_text_octets := b30
    g_law_text_octets := PySem.W.mg_of X G a30
    f_law_instruction_octets := f31
    d_law_instruction_octets := _
    F_law_instruction_octets := F31
    b_law_instruction_octets := b31
    g_law_instruction_octets := PySem.W.mg_of X G a31
    f_law_answer_octets := f32
    d_law_answer_octets := _
    F_law_answer_octets := F32
    b_law_answer_octets := b32
    g_law_answer_octets := PySem.W.mg_of X G a32
    f_law_draw_instruction := f33
    d_law_draw_instruction := _
    F_law_draw_instruction := F33
    b_law_draw_instruction := b33
    g_law_draw_instruction := PySem.W.mg_of X G a33
    f_law_draw_answer := f34
    d_law_draw_answer := _
    F_law_draw_answer := F34
    b_law_draw_answer := b34
    g_law_draw_answer := PySem.W.mg_of X G a34
    f_law_read_number := f35
    d_law_read_number := _
    F_law_read_number := F35
    b_law_read_number := b35
    g_law_read_number := PySem.W.mg_of X G a35
    f_law_read_text := f36
    d_law_read_text := _
    F_law_read_text := F36
    b_law_read_text := b36
    g_law_read_text := PySem.W.mg_of X G a36
    f_law_read_pair := f37
    d_law_read_pair := _
    F_law_read_pair := F37
    b_law_read_pair := b37
    g_law_read_pair := PySem.W.mg_of X G a37
    f_law_read_single := f38
    d_law_read_single := _
    F_law_read_single := F38
    b_law_read_single := b38
    g_law_read_single := PySem.W.mg_of X G a38
    f_law_read_instruction := f39
    d_law_read_instruction := _
    F_law_read_instruction := F39
    b_law_read_instruction := b39
    g_law_read_instruction := PySem.W.mg_of X G a39
    f_law_read_answer := f40
    d_law_read_answer := _
    F_law_read_answer := F40
    b_law_read_answer := b40
    g_law_read_answer := PySem.W.mg_of X G a40
    f_law_whole := f41
    d_law_whole := _
    F_law_whole := F41
    b_law_whole := b41
    g_law_whole := PySem.W.mg_of X G a41
    f_law_bent_octets := f42
    d_law_bent_octets := _
    F_law_bent_octets := F42
    b_law_bent_octets := b42
    g_law_bent_octets := PySem.W.mg_of X G a42
    f_law_told := f43
    d_law_told := _
    F_law_told := F43
    b_law_told := b43
    g_law_told := PySem.W.mg_of X G a43
    f_law := fa
    d_law := _
    F_law := F44
    b_law := b44
    g_law := PySem.W.mg_of X G a44
    C_FieldError := C0
    m_FieldError := .type "type"
    B_FieldError := ⟨PySem.W.mg_of X G cC0, ⟨rd0, ga0⟩, in0⟩
    R_FieldError := ⟨rb0, rt0, rc0⟩
    C_NoOctetList := C1
    P_NoOctetList := ⟨PySem.W.mg_of X G cC1, xC1, kC1, eC1, tC1⟩
    S_NoOctetList := ⟨eC1, tC1, uC1⟩
    C_NoOctets := C2
    E_NoOctets := ⟨⟨⟨_, _, _, _, _, _, _, _, _, _, _, _, _, _, _, xL2, rv2⟩, sa2, eC2, tC2, kC2⟩, PySem.W.mg_of X G cC2, a0, t0, nb2⟩
    S_NoOctets := ⟨eC2, tC2, uC2⟩
    C_Reader := C3
    cl_Reader := ⟨pg3, hd3, po3, sa3⟩
    g_Reader := PySem.W.mg_of X G cC3
    M_Reader := ⟨mk3, a5, i5, kC3⟩
    nA_Reader_octets := n3_0
    nA_Reader_place := n3_1
    m_Reader_at_end := ⟨a6, i6, k6⟩
    m_Reader_look := ⟨a7, i7, k7⟩
    m_Reader_accept := ⟨a8, i8, k8⟩
    m_Reader_finish := ⟨a9, i9, k9⟩
    m_Reader_take_number := ⟨a10, i10, k10⟩
    m_Reader_take_rest := ⟨a11, i11, k11⟩
    m_Reader_take_string := ⟨a12, i12, k12⟩
    m_Reader_take_name := ⟨a13, i13, k13⟩
    m_Reader_take_value := ⟨a14, i14, k14⟩
    U_NoOctets_NoOctets := xu2_2
    U_NoOctets_NoOctetList := xu2_1
    U_NoOctetList_NoOctets := xu1_2
    U_NoOctetList_NoOctetList := xu1_1
    X_NoOctetList := ⟨⟨xg1, xk1, xs1, xd1, xa1, xn_, xt_, xm1⟩, xy1, xz1⟩
    X_NoOctets := ⟨⟨xg2, xk2, xs2, xd2, xa2, xn_, xt_, xm2⟩, xy2, xz2⟩
    t_NUMBER_MOST := tk0
    g_NUMBER_MOST := PySem.W.mg_of X G v0
    t_STREAM_MOST := tk1
    g_STREAM_MOST := PySem.W.mg_of X G v1
    t_NAME_MOST := tk2
    g_NAME_MOST := PySem.W.mg_of X G v2
    t_VALUE_MOST := tk3
    g_VALUE_MOST := PySem.W.mg_of X G v3
    t_VALUE_PREFIX := tk4
    g_VALUE_PREFIX := PySem.W.mg_of X G v4
    a_CHARACTERS := ad5
    g_CHARACTERS := PySem.W.mg_of X G v5
    CHARACTERS_d := ⟨⟨_, _, w5, e5⟩, q5⟩
    z_all := PySem.W.mg_none_of X G z0
    z_bool := PySem.W.mg_none_of X G z1
    z_enumerate := PySem.W.mg_none_of X G z2
    z_int := PySem.W.mg_none_of X G z3
    z_isinstance := PySem.W.mg_none_of X G z4
    z_len := PySem.W.mg_none_of X G z5
    z_list := PySem.W.mg_none_of X G z6
    z_max := PySem.W.mg_none_of X G z7
    z_min := PySem.W.mg_none_of X G z8
    z_range := PySem.W.mg_none_of X G z9
    z_repr := PySem.W.mg_none_of X G z10
    z_str := PySem.W.mg_none_of X G z11
    z_tuple := PySem.W.mg_none_of X G z12
    z_zip := PySem.W.mg_none_of X G z13
  }
  have tb0 := tab_mk (x := "law") a44 l44 rfl tc0 tk_0 tv0
  refine ⟨[(qt0, Pt0)], PySem.W.fnOf "law" "law" (defArgs s_law) (defBody s_law) (defScope s_law) .none kV44 dc44 pm44 an44 cd44 ct44, by show [PySem.W.tabIn K "law"] = [some (qt0, Pt0)]; rw [tb0], fun p hp => ?_, fun s v => .of_eq rfl, ok_law T (fun_codeT F44 X G (PySem.W.mg_of X G a44) tb0)⟩
  simp only [List.mem_cons, List.not_mem_nil, or_false] at hp
  rcases hp with rfl
  · exact tn0
theorem walk {l : PySem.W.OpenLaw} {q : Program} {loose : List Str} {XP : (Str → Option Value) → Heap → Prop} {YP : World → Heap → Prop} {d : DefRec} {K : Params → PySem.W.Frag} (hn : l.most = some 63) (hdf : d.params.defaults = [])
    (hrec : ∀ y ∈ (["law"] : List Str), ((recsOf q).find? fun e => e.name == y).isSome = true)
    (hY : ∀ (w : World) (h : Heap), YP w h → (K w.params).In h)
    (F : ∀ (w : World) (mg : Str → Option Value) (fa : Addr) (h : Heap), (K w.params).In h → h.Ns mainGlobals mg → mg d.name = some (.ref fa) →
      ∃ (cs : List (Addr × Addr)) (fd : FuncData), (["law"] : List Str).map (PySem.W.tabIn (K w.params)) = cs.map some ∧ (∀ p ∈ cs, (K w.params).lookup p.2 = none) ∧ (∀ (s : Shared) (u : Value), BindsTo s fd ⟨[u], []⟩ [("script", u)]) ∧ TopOkT l.prog w (K w.params) mg cs 13 fa fd ["script"] (spLaw8 (K w.params) cs)) :
    PySem.W.WalkO q loose XP YP l.row.toRowW d [] (fun f vs => PySem.call f vs) :=
  walk_topT (n := 63) (k := 13) (x := "script") (tn := ["law"]) (sp := fun w cs => spLaw8 (K w.params) cs) hn (by decide) hdf ⟨rfl, by decide, by decide⟩ hrec hY F fun _ cs H a ns hl hO hS => ⟨a, ns, rfl, hS, hl, hO.1, fun _ => rfl⟩
end Fld
open PySem PySem.W PyProof.Rows
set_option maxRecDepth 100000 in
set_option maxHeartbeats 0 in
theorem PySem.Challenge.cw_fieldtable_k08_instructions_and_answers_holds : PySem.Challenge.rw_fieldtable_k08_instructions_and_answers.Holds := by
  refine Fld.head ?_
  k_fill
  refine Fld.walk (l := PySem.Challenge.rw_fieldtable_k08_instructions_and_answers) rfl rfl ?R (fun w h Y => PySem.W.km_in_of Y) ?F
  case R => decide +kernel
  case F =>
    intro w mg fa h KX G hmg
    refine' Fld.all_mk KX G hmg ?cC0 ?rd0 ?ga0 ?in0 ?rb0 ?rt0 ?rc0 ?cC1 ?kC1 ?eC1 ?tC1 ?uC1 ?xC1 ?cC2 ?kC2 ?eC2 ?tC2 ?uC2 ?xL2 ?rv2 ?sa2 ?nb2 ?cC3 ?pg3 ?hd3 ?po3 ?sa3 ?mk3 ?kC3 ?n3_0 ?n3_1 ?xn_ ?xt_ ?xg1 ?xk1 ?xs1 ?xd1 ?xa1 ?xm1 ?xy1 ?xz1 ?xg2 ?xk2 ?xs2 ?xd2 ?xa2 ?xm2 ?xy2 ?xz2 ?xu2_2 ?xu2_1 ?xu1_2 ?xu1_1 ?a0 ?l0 ?c0 ?k0 ?i0 ?t0 ?a1 ?l1 ?c1 ?k1 ?a2 ?l2 ?c2 ?k2 ?a3 ?l3 ?c3 ?k3 ?a4 ?l4 ?c4 ?k4 ?a5 ?l5 ?c5 ?k5 ?i5 ?t5 ?a6 ?l6 ?c6 ?k6 ?i6 ?t6 ?a7 ?l7 ?c7 ?k7 ?i7 ?t7 ?a8 ?l8 ?c8 ?k8 ?i8 ?t8 ?a9 ?l9 ?c9 ?k9 ?i9 ?t9 ?a10 ?l10 ?c10 ?k10 ?i10 ?t10 ?a11 ?l11 ?c11 ?k11 ?i11 ?t11 ?a12 ?l12 ?c12 ?k12 ?i12 ?t12 ?a13 ?l13 ?c13 ?k13 ?i13 ?t13 ?a14 ?l14 ?c14 ?k14 ?i14 ?t14 ?a15 ?l15 ?c15 ?k15 ?a16 ?l16 ?c16 ?k16 ?a17 ?l17 ?c17 ?k17 ?a18 ?l18 ?c18 ?k18 ?a19 ?l19 ?c19 ?k19 ?a20 ?l20 ?c20 ?k20 ?a21 ?l21 ?c21 ?k21 ?a22 ?l22 ?c22 ?k22 ?a23 ?l23 ?c23 ?k23 ?a24 ?l24 ?c24 ?k24 ?a25 ?l25 ?c25 ?k25 ?a26 ?l26 ?c26 ?k26 ?a27 ?l27 ?c27 ?k27 ?a28 ?l28 ?c28 ?k28 ?a29 ?l29 ?c29 ?k29 ?a30 ?l30 ?c30 ?k30 ?a31 ?l31 ?c31 ?k31 ?a32 ?l32 ?c32 ?k32 ?a33 ?l33 ?c33 ?k33 ?a34 ?l34 ?c34 ?k34 ?a35 ?l35 ?c35 ?k35 ?a36 ?l36 ?c36 ?k36 ?a37 ?l37 ?c37 ?k37 ?a38 ?l38 ?c38 ?k38 ?a39 ?l39 ?c39 ?k39 ?a40 ?l40 ?c40 ?k40 ?a41 ?l41 ?c41 ?k41 ?a42 ?l42 ?c42 ?k42 ?a43 ?l43 ?c43 ?k43 ?a44 ?l44 ?c44 ?k44 ?v0 ?v1 ?v2 ?v3 ?v4 ?v5 ?w5 ?e5 ?q5 ?z0 ?z1 ?z2 ?z3 ?z4 ?z5 ?z6 ?z7 ?z8 ?z9 ?z10 ?z11 ?z12 ?z13 ?tc0 ?tk_0 ?tv0 ?tn0
    (case cC0 => k_is)
    (case rd0 => k_is)
    (case ga0 => k_is)
    (case in0 => k_is)
    (case rb0 => k_is)
    (case rt0 => k_is)
    (case rc0 => k_is)
    (case cC1 => k_is)
    (case kC1 => k_is)
    (case eC1 => k_is)
    (case tC1 => k_is)
    (case uC1 => k_is)
    (case xC1 => k_exc)
    (case cC2 => k_is)
    (case kC2 => k_is)
    (case eC2 => k_is)
    (case tC2 => k_is)
    (case uC2 => k_is)
    (case xL2 => k_is)
    (case rv2 => first | rfl | decide +kernel)
    (case sa2 => k_is)
    (case nb2 => k_is)
    (case cC3 => k_is)
    (case pg3 => k_is)
    (case hd3 => k_is)
    (case po3 => k_is)
    (case sa3 => k_is)
    (case mk3 => k_is)
    (case kC3 => k_is)
    (case n3_0 => k_is)
    (case n3_1 => k_is)
    (case xn_ => k_is)
    (case xt_ => k_is)
    (case xg1 => k_is)
    (case xk1 => k_is)
    (case xs1 => k_is)
    (case xd1 => k_is)
    (case xa1 => k_is)
    (case xm1 => k_is)
    (case xy1 => k_is)
    (case xz1 => k_is)
    (case xg2 => k_is)
    (case xk2 => k_is)
    (case xs2 => k_is)
    (case xd2 => k_is)
    (case xa2 => k_is)
    (case xm2 => k_is)
    (case xy2 => k_is)
    (case xz2 => k_is)
    (case xu2_2 => k_is)
    (case xu2_1 => k_is)
    (case xu1_2 => k_is)
    (case xu1_1 => k_is)
    (case a0 => k_is)
    (case l0 => k_is)
    (case c0 => k_is)
    (case k0 => k_is)
    (case i0 => k_is)
    (case t0 => k_is)
    (case a1 => k_is)
    (case l1 => k_is)
    (case c1 => k_is)
    (case k1 => k_is)
    (case a2 => k_is)
    (case l2 => k_is)
    (case c2 => k_is)
    (case k2 => k_is)
    (case a3 => k_is)
    (case l3 => k_is)
    (case c3 => k_is)
    (case k3 => k_is)
    (case a4 => k_is)
    (case l4 => k_is)
    (case c4 => k_is)
    (case k4 => k_is)
    (case a5 => k_is)
    (case l5 => k_is)
    (case c5 => k_is)
    (case k5 => k_is)
    (case i5 => k_is)
    (case t5 => k_is)
    (case a6 => k_is)
    (case l6 => k_is)
    (case c6 => k_is)
    (case k6 => k_is)
    (case i6 => k_is)
    (case t6 => k_is)
    (case a7 => k_is)
    (case l7 => k_is)
    (case c7 => k_is)
    (case k7 => k_is)
    (case i7 => k_is)
    (case t7 => k_is)
    (case a8 => k_is)
    (case l8 => k_is)
    (case c8 => k_is)
    (case k8 => k_is)
    (case i8 => k_is)
    (case t8 => k_is)
    (case a9 => k_is)
    (case l9 => k_is)
    (case c9 => k_is)
    (case k9 => k_is)
    (case i9 => k_is)
    (case t9 => k_is)
    (case a10 => k_is)
    (case l10 => k_is)
    (case c10 => k_is)
    (case k10 => k_is)
    (case i10 => k_is)
    (case t10 => k_is)
    (case a11 => k_is)
    (case l11 => k_is)
    (case c11 => k_is)
    (case k11 => k_is)
    (case i11 => k_is)
    (case t11 => k_is)
    (case a12 => k_is)
    (case l12 => k_is)
    (case c12 => k_is)
    (case k12 => k_is)
    (case i12 => k_is)
    (case t12 => k_is)
    (case a13 => k_is)
    (case l13 => k_is)
    (case c13 => k_is)
    (case k13 => k_is)
    (case i13 => k_is)
    (case t13 => k_is)
    (case a14 => k_is)
    (case l14 => k_is)
    (case c14 => k_is)
    (case k14 => k_is)
    (case i14 => k_is)
    (case t14 => k_is)
    (case a15 => k_is)
    (case l15 => k_is)
    (case c15 => k_is)
    (case k15 => k_is)
    (case a16 => k_is)
    (case l16 => k_is)
    (case c16 => k_is)
    (case k16 => k_is)
    (case a17 => k_is)
    (case l17 => k_is)
    (case c17 => k_is)
    (case k17 => k_is)
    (case a18 => k_is)
    (case l18 => k_is)
    (case c18 => k_is)
    (case k18 => k_is)
    (case a19 => k_is)
    (case l19 => k_is)
    (case c19 => k_is)
    (case k19 => k_is)
    (case a20 => k_is)
    (case l20 => k_is)
    (case c20 => k_is)
    (case k20 => k_is)
    (case a21 => k_is)
    (case l21 => k_is)
    (case c21 => k_is)
    (case k21 => k_is)
    (case a22 => k_is)
    (case l22 => k_is)
    (case c22 => k_is)
    (case k22 => k_is)
    (case a23 => k_is)
    (case l23 => k_is)
    (case c23 => k_is)
    (case k23 => k_is)
    (case a24 => k_is)
    (case l24 => k_is)
    (case c24 => k_is)
    (case k24 => k_is)
    (case a25 => k_is)
    (case l25 => k_is)
    (case c25 => k_is)
    (case k25 => k_is)
    (case a26 => k_is)
    (case l26 => k_is)
    (case c26 => k_is)
    (case k26 => k_is)
    (case a27 => k_is)
    (case l27 => k_is)
    (case c27 => k_is)
    (case k27 => k_is)
    (case a28 => k_is)
    (case l28 => k_is)
    (case c28 => k_is)
    (case k28 => k_is)
    (case a29 => k_is)
    (case l29 => k_is)
    (case c29 => k_is)
    (case k29 => k_is)
    (case a30 => k_is)
    (case l30 => k_is)
    (case c30 => k_is)
    (case k30 => k_is)
    (case a31 => k_is)
    (case l31 => k_is)
    (case c31 => k_is)
    (case k31 => k_is)
    (case a32 => k_is)
    (case l32 => k_is)
    (case c32 => k_is)
    (case k32 => k_is)
    (case a33 => k_is)
    (case l33 => k_is)
    (case c33 => k_is)
    (case k33 => k_is)
    (case a34 => k_is)
    (case l34 => k_is)
    (case c34 => k_is)
    (case k34 => k_is)
    (case a35 => k_is)
    (case l35 => k_is)
    (case c35 => k_is)
    (case k35 => k_is)
    (case a36 => k_is)
    (case l36 => k_is)
    (case c36 => k_is)
    (case k36 => k_is)
    (case a37 => k_is)
    (case l37 => k_is)
    (case c37 => k_is)
    (case k37 => k_is)
    (case a38 => k_is)
    (case l38 => k_is)
    (case c38 => k_is)
    (case k38 => k_is)
    (case a39 => k_is)
    (case l39 => k_is)
    (case c39 => k_is)
    (case k39 => k_is)
    (case a40 => k_is)
    (case l40 => k_is)
    (case c40 => k_is)
    (case k40 => k_is)
    (case a41 => k_is)
    (case l41 => k_is)
    (case c41 => k_is)
    (case k41 => k_is)
    (case a42 => k_is)
    (case l42 => k_is)
    (case c42 => k_is)
    (case k42 => k_is)
    (case a43 => k_is)
    (case l43 => k_is)
    (case c43 => k_is)
    (case k43 => k_is)
    (case a44 => k_is)
    (case l44 => k_is)
    (case c44 => k_is)
    (case k44 => k_is)
    (case v0 => k_is)
    (case v1 => k_is)
    (case v2 => k_is)
    (case v3 => k_is)
    (case v4 => k_is)
    (case v5 => k_is)
    (case w5 => k_is)
    (case e5 => repeat (first | exact Paired.nil | refine Paired.cons ⟨⟨_, rfl⟩, rfl, ⟨_, rfl⟩⟩ ?_))
    (case q5 => first | rfl | decide +kernel | k_is)
    (case z0 => k_is)
    (case z1 => k_is)
    (case z2 => k_is)
    (case z3 => k_is)
    (case z4 => k_is)
    (case z5 => k_is)
    (case z6 => k_is)
    (case z7 => k_is)
    (case z8 => k_is)
    (case z9 => k_is)
    (case z10 => k_is)
    (case z11 => k_is)
    (case z12 => k_is)
    (case z13 => k_is)
    (case tc0 => rfl)
    (case tk_0 => k_is)
    (case tv0 => rfl)
    (case tn0 => first | kernel_rfl | decide +kernel | rfl)

