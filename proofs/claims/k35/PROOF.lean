import PyProof.Rows.All
import Wide.All
import OpenK.AllK
import Wide.FinOn
import KE.GoesEnum
import HandS.ForMost
import HandS.IsInst
import HandS.Flow
import HandS.Walk
import HandS.Zip
import HandS.Style
import HandS.Defaults
import HandS.Evl
import KE.DataEq
import KE.KEqDict
import HandS.ForExc
import HandS.ExcInit
import HandS.ClsMeth
import HandS.FStr
import HandS.Steps
import HandS.ExcIs
import HandS.WordsExc
import HandS.ExcValue
import KE.KRevSl
import HandS.TupAny
import HandS.TupMul
import HandS.More
import HandS.ForDict
import KE.KSortedM
import HandS.Finally
import KE.KDictZip
import KE.KItemsList
import HandS.Iter
import HandS.Dict
import HandS.ExcField
import HandS.SetFor
import HandS.Conv
import HandS.TupLe
import HandS.SortRule
import KE.LtData
import KE.DatumOrd
import HandS.DictSubView
import HandS.DictTup
import HandS.TupLen
import KE.KDictItemsList
import KE.KDictDisplayH
import PyProof.DictTable
import PySem.Challenge.RW_fieldtable_k35_whole_shortest_blocks
set_option Elab.async false
set_option linter.all false
set_option maxRecDepth 100000
set_option maxHeartbeats 4000000
namespace Fld
open PySem PySem.Spec PyProof.Rows L2
/-! ### a written dict whose keys are ints -/
def EntI : List DictEntry → List (Int × V) → Prop := Paired fun (e : DictEntry) (p : Int × V) => (∃ t, e.key = Value.int p.1 t) ∧ e.hash = hashInt p.1 ∧ RelV p.2 e.val
structure IDict (K : PySem.W.Frag) (d : Addr) (kvs : List (Int × V)) : Prop where
  ex : ∃ es n, K.lookup d = some ⟨.type "dict", none, .dict es n, #[]⟩ ∧ EntI es.toList kvs
  low : (d == sysModules) = false
def valI (kvs : List (Int × V)) (k : Int) : Option V := (kvs.find? fun p => p.1 == k).map (·.2)
theorem findI : ∀ {es : List DictEntry} {kvs : List (Int × V)} (k : Int), EntI es kvs → RelO (valI kvs k) ((es.find? fun e => Value.isInt k e.key).map (·.val))
  | _, _, k, .nil => True.intro
  | e :: es, p :: kvs, k, .cons h t => by
    obtain ⟨⟨u, e1⟩, e2, e3⟩ := h
    have ih := findI k t
    unfold valI
    rw [List.find?_cons, List.find?_cons, e1]
    by_cases c : p.1 = k
    · subst c
      have q : Value.isInt p.1 (Value.int p.1 u) = true := by simp [Value.isInt]
      rw [q]
      simp only [beq_self_eq_true, Option.map_some]
      exact e3
    · have q : Value.isInt k (Value.int p.1 u) = false := by simp [Value.isInt, c]
      have q2 : (p.1 == k) = false := by simp [c]
      rw [q, q2]
      exact ih
section
variable {X : Cx} {d : Addr} {kvs : List (Int × V)}
theorem IDict.map (D : IDict X.K d kvs) {h : Heap} (I : X.K.In h) : ∃ es : Array DictEntry, h.MapOf (intKind X.prog X.w) d (fun k => findBy Value.isInt es k) ∧ EntI es.toList kvs := by
  obtain ⟨es, n, l, e⟩ := D.ex
  refine ⟨es, ⟨_, es, n, I _ _ l, ⟨rfl, rfl, rfl⟩, rfl, fun x hx => ?_, fun _ => rfl⟩, e⟩
  have mem : ∀ {es : List DictEntry} {kvs : List (Int × V)}, EntI es kvs → ∀ x ∈ es, ∃ k t, x.key = Value.int k t ∧ x.hash = hashInt k := by
    intro es kvs r
    induction r with
    | nil => intro x hx; cases hx
    | cons h t ih =>
      intro x hx
      rcases List.mem_cons.mp hx with rfl | hx
      · obtain ⟨⟨u, e1⟩, e2, _⟩ := h
        exact ⟨_, u, e1, e2⟩
      · exact ih x hx
  obtain ⟨k, t, e1, e2⟩ := mem e x (Array.mem_toList_iff.mpr hx)
  exact ⟨k, by rw [e1]; exact intKind_is _ _ k t, e2⟩
theorem findE {es : Array DictEntry} (e : EntI es.toList kvs) (k : Int) : RelO (valI kvs k) (findBy Value.isInt es k) := by
  obtain ⟨l⟩ := es
  have := findI k e
  unfold findBy
  rw [List.find?_toArray]
  exact this
theorem isSome_of {a : Option V} {b : Option Value} (r : RelO a b) : b.isSome = a.isSome := by
  cases a <;> cases b <;> first | rfl | exact r.elim
/-- k in d, d a written dict with int keys -/
def rInI (d : Addr) (kvs : List (Int × V)) : R2 := fun x y H Q => ∃ k : Int, x = .int k ∧ y = .ref d ∧ Q (.bl (valI kvs k).isSome) H
theorem op_in_kdI (D : IDict X.K d kvs) : OpR X (compareOp .In) (rInI d kvs) := by
  intro pins s σ H x y v u Q I rx ry h
  obtain ⟨k, rfl, rfl, q⟩ := h
  obtain ⟨t, rfl⟩ := rx
  cases ry
  obtain ⟨es, m, e⟩ := D.map I.kIn
  refine wpAny_in_of (PySem.intKind_is X.prog X.w k t) D.low m ?_
  rw [isSome_of (findE e k)]
  exact ⟨.bl _, H, I.tok _, rfl, q⟩
/-- d[k] -/
def rIxI (d : Addr) (kvs : List (Int × V)) : R2 := fun x y H Q => ∃ (k : Int) (v : V), x = .ref d ∧ y = .int k ∧ valI kvs k = some v ∧ Q v H
theorem ix_kdI (D : IDict X.K d kvs) : IxR X (rIxI d kvs) := by
  intro value slice pins s σ H x y v u Q I rx ry h hs
  obtain ⟨k, z, rfl, rfl, hv, q⟩ := h
  cases rx
  obtain ⟨t, rfl⟩ := ry
  obtain ⟨es, m, e⟩ := D.map I.kIn
  have r := findE e k
  rw [hv] at r
  obtain ⟨u0, e0, ru⟩ := RelO.some_of r
  exact tail_any m.typeIs slot_dict_getitem.lookup (wpAny_getItem_of (PySem.intKind_is X.prog X.w k t) m e0 ⟨z, H, I.tok _, ru, q⟩) hs
end
/-! ### text * int -/
def repS (x : Str) (n : Nat) : Str := ⟨(List.replicate n x.cps.toList).flatten.toArray⟩
theorem foldl_app : ∀ (k : Nat) (xs : Array Nat) (acc : Array Nat), (List.replicate k xs).foldl (· ++ ·) acc = acc ++ (List.replicate k xs.toList).flatten.toArray
  | 0, xs, acc => by simp
  | k + 1, xs, acc => by
    rw [List.replicate_succ, List.foldl_cons, foldl_app k xs, List.replicate_succ, List.flatten_cons]
    apply Array.ext'
    simp [List.append_assoc]
theorem repS_tl (x : Str) (n : Nat) : (repS x n).cps.toList = (List.replicate n x.cps.toList).flatten := rfl
theorem op_mul_str {X : Cx} : OpR X (binaryOp .Mult) (fun x y H Q => ∃ (z : Str) (k : Int), x = .str z ∧ y = .int k ∧ 1 < k ∧ k < 1000 ∧ 0 < z.length ∧ z.length ≤ 1000 ∧ Q (.str (repS z k.toNat)) H) := by
  intro pins s σ H x y v u Q I rx ry h
  obtain ⟨z, k, rfl, rfl, h1, h2, h3, h4, q⟩ := h
  obtain ⟨t, rfl⟩ := rx
  obtain ⟨t', rfl⟩ := ry
  have hlen : (z.length == 0) = false := by simp; omega
  have hk1 : (k == 1) = false := by simp; omega
  refine PySem.P.mul_str (by
      rw [decide_eq_false (by omega), decide_eq_false (by omega)]; rfl) (fun _ _ => ?_) (fun _ _ => ?_) ?_
  · have : (1000 : Int) ≤ (2 ^ 63 - 1) / k := by
      rw [Int.le_ediv_iff_mul_le (by omega)]
      omega
    omega
  · have a1 : z.length * k.toNat ≤ 1000 * 1000 := Nat.mul_le_mul h4 (by omega)
    have a2 : ¬ (z.length * k.toNat > sizeLine) := by rw [sizeLine_eq]; omega
    show (decide _) = false
    first | exact decide_eq_false a2 | simp [a2]
  · rw [if_neg (by omega), hk1, hlen]
    simp only [Bool.or_self, Bool.false_eq_true, if_false]
    have e : (⟨(List.replicate k.toNat z.cps).foldl (· ++ ·) #[]⟩ : Str) = repS z k.toNat := by
      unfold repS
      rw [foldl_app]
      simp
    rw [e]
    refine ⟨?_, ⟨.str (repS z k.toNat), H, I.tok _, ⟨_, rfl⟩, q⟩⟩
    have a1 : z.length * k.toNat ≤ 1000 * 1000 := Nat.mul_le_mul h4 (by omega)
    have e2 : (repS z k.toNat).length = k.toNat * z.length := by
      show (List.replicate k.toNat z.cps.toList).flatten.toArray.size = _
      simp
      rfl
    rw [Nat.mul_comm] at a1
    first
      | exact decide_eq_false (by rw [e2, sizeLine_eq]; omega)
      | (rw [e2]; simp [sizeLine_eq]; omega)
      | (rw [e2, sizeLine_eq]; omega)
end Fld
namespace Fld
open PySem PySem.Spec PyProof.Rows L2
/-! ### enumerate(text) -/
/-- the signs of x, each in a new pair with its place -/
def ItS (x : Str) : It :=
  ⟨fun i H => i < x.cps.size, fun i H v H' => ∃ T c, v = .ref T ∧ H T = none ∧ H' = upd H T (.tup [.int (i : Nat), .str ⟨#[c]⟩]) ∧ x.cps[i]? = some c, fun i H => x.cps.size ≤ i⟩
theorem turn_enumS {P : Program} {w : World} {K : PySem.W.Frag} {elts : List Expr} {kk : Nat} {tpos : Pos} (x : Str) (t : Tok) (e it : Addr) :
    Turn P w K (.Tuple elts kk tpos) (ItS x) [e, it] e (fun i h => (∃ old, IsEnum h e it ((i : Nat) : Int) old) ∧ h.IsStrIter it (strIterType x) x t i ∧ e ≠ it ∧ i ≤ x.cps.size) where
  mem := by simp
  obj := fun i h st b hb => by
    obtain ⟨⟨old, he⟩, hi, _⟩ := st
    have e' : b = e ∨ b = it := by simpa using hb
    rcases e' with z | z
    · rw [z]; exact ⟨_, he, fun v q => nomatch q⟩
    · rw [z]; obtain ⟨o, ho, hc, hd⟩ := hi; exact ⟨_, ho, fun v q => by rw [hd] at q; cases q⟩
  keep := fun i h h' st k => let ⟨⟨old, he⟩, hi, hne, hl⟩ := st; ⟨⟨old, k e (by simp) _ he⟩, by obtain ⟨o, ho, hc, hd⟩ := hi; exact ⟨o, k it (by simp) o ho, hc, hd⟩, hne, hl⟩
  item := by
    intro X hP hw hK hc i pins s σ H E I hf st hg
    subst hP hw hK
    obtain ⟨⟨old, he⟩, hit, hne, hl⟩ := st
    have D := Draws.text (prog := X.prog) (w := X.w) (A := X.A.in1) (I.ok.hd hc) it x t
    have hel : e < s.heap.objs.size := Heap.lt_size he
    have hil : it < s.heap.objs.size := by obtain ⟨_, q⟩ := D.live i s.heap hit; exact Heap.lt_size q
    refine wpAny_pyNext_enum_itemC D he hit hg hne (by simp [hne]) fun u h' tk hP ho hit' hT hsz hk => ?_
    obtain ⟨c, tu, hx, rfl⟩ := hP
    refine ⟨_, rfl, wpAny_letOwnedTupleGo_enum (s := { s with heap := h', toks := tk + 1 }) ho fun h'' he' sb => ?_⟩
    have hT2 : h''.get? s.heap.objs.size = some { cls := .type "tuple", data := .seq #[.int i tk, .str ⟨#[c]⟩ tu] } := (sb.2 _ (Nat.ne_of_gt hel)).trans hT
    have new : ObjOk X.prog X.w (upd H s.heap.objs.size (.tup [.int (i : Nat), .str ⟨#[c]⟩])) h'' s.heap.objs.size (.tup [.int (i : Nat), .str ⟨#[c]⟩]) :=
      ⟨by show 2 ≤ sizeLine; decide, [.int i tk, .str ⟨#[c]⟩ tu], .cons ⟨_, rfl⟩ (.cons ⟨_, rfl⟩ .nil), ⟨_, hT2, rfl, _, rfl⟩⟩
    have I1 : Inv X pins σ (upd H s.heap.objs.size (.tup [.int (i : Nat), .str ⟨#[c]⟩])) { s with heap := h'', toks := tk + 1 } :=
      I.turnedNew (ch := [e, it]) (fun b ob hb q => (sb.2 b (fun z => hb (by simp [z]))).trans (hk b ob (fun z => hb (by simp [z])) (fun z => hb (by simp [z])) q)) hf (Nat.le_refl _) new
    refine ⟨.ref s.heap.objs.size, _, I1, rfl, ⟨_, c, rfl, I.hok.fresh (Nat.le_refl _), rfl, hx⟩, ⟨⟨.str ⟨#[c]⟩ tu, ?_⟩, D.frame _ _ _ hit' (fun b hb o q => ?_), hne, hg⟩, fun b hb => ?_⟩
    · have e1 : ((i + 1 : Nat) : Int) = (i : Int) + 1 := by omega
      rw [e1]; exact he'
    · have eb : b = it := by simpa using hb
      rw [eb] at q ⊢
      exact (sb.2 it (Ne.symm hne)).trans q
    · have hb' : b < s.heap.objs.size := by
        have e' : b = e ∨ b = it := by simpa using hb
        rcases e' with z | z
        · rw [z]; exact hel
        · rw [z]; exact hil
      rw [upd_ne (Nat.ne_of_lt hb')]
      exact (hf b hb).1
  done := by
    intro X hP hw hK hc i pins s σ H E I hf st hg
    subst hP hw hK
    obtain ⟨⟨old, he⟩, hit, hne, hl⟩ := st
    have ei : i = x.cps.size := Nat.le_antisymm hl hg
    subst ei
    have D := Draws.text (prog := X.prog) (w := X.w) (A := X.A.in1) (I.ok.hd hc) it x t
    obtain ⟨f0, f1, f2, f3, f4, f5⟩ := hf it (by simp)
    exact wpAny_pyNext_enum_endD D he hit fun h' eb => ⟨rfl, I.turned (t' := s.toks) (fun b o hb q => eb b o hb q) f0 f1 f3 f4 f5⟩
  self := fun A i s Q E st h => let ⟨⟨_, he⟩, _⟩ := st; wpAny_pyIter_enum he h
def iEnumS (ta : TA) : TI := fun σ H R => ta σ H fun vs H1 => ∃ x, vs = [.str x] ∧ R (ItS x) H1
theorem pi_enumS {X : Cx} {e : Expr} {ta : TA} {p pos tpos : Pos} {elts : List Expr} {kk : Nat} (hg : Gl X "enumerate") (hm : X.mg "enumerate" = none) (ha : PA X [e] ta) (hs : starEach [e] X.env = [(false, eval e X.env)] := by rfl) :
    PI X (.Tuple elts kk tpos) (.Call (.Name "enumerate" p) [e] [] pos) (iEnumS ta) := by
  refine ⟨fun pins s σ H R I h => ?_⟩
  refine Call_ (ld_blt I hg hm boot_enumerate (PyProof.Rows.callWith_type1 (thn (ha.run pos pins s σ H _ I h) fun us s1 ⟨vs, H1, I1, r1, q1⟩ => ?_) hs rfl))
  obtain ⟨x, ex, q⟩ := q1
  subst ex
  cases r1 with
  | cons r rr =>
    cases rr
    obtain ⟨t, rfl⟩ := r
    refine call_enumerate_str fun h' he hit hsz hk => wpAny_pyIter_enum he ?_
    have I2 : Inv X pins σ H1 { s1 with heap := h' } := I1.kept (t' := s1.toks) hk
    refine ⟨s1.heap.objs.size + 1, [s1.heap.objs.size + 1, s1.heap.objs.size], _, _, H1, rfl, I2, turn_enumS x t (s1.heap.objs.size + 1) s1.heap.objs.size, ⟨⟨.none, he⟩, hit, Nat.succ_ne_self _, Nat.zero_le _⟩, fun b hb => ?_, q⟩
    have e' : b = s1.heap.objs.size + 1 ∨ b = s1.heap.objs.size := by simpa using hb
    have hle : s1.heap.objs.size ≤ b := by
      rcases e' with z | z
      · rw [z]; exact Nat.le_add_right _ _
      · rw [z]; exact Nat.le_refl _
    exact I1.fpOk hle (I1.hok.fresh hle)
/-- the walk of it -/
theorem walk_enumS {x : Str} : Walk (ItS x) x.cps.size (fun _ => True) (fun i H v H' => ∃ T c, v = .ref T ∧ H T = none ∧ H' = upd H T (.tup [.int (i : Nat), .str ⟨#[c]⟩]) ∧ x.cps[i]? = some c) :=
  ⟨fun _ _ hi _ => hi, fun _ _ => Nat.le_refl _, fun _ _ _ _ _ _ y => y⟩
end Fld
namespace Fld
open PySem PySem.Spec PyProof.Rows L2
/-! ### the characters -/
def charCodes : List Nat := [32, 45, 46, 47, 48, 49, 50, 51, 52, 53, 54, 55, 56, 57, 58, 59, 61, 97, 98, 99, 100, 101, 102, 103, 104, 105, 106, 107, 108, 109, 110, 111, 112, 113, 114, 115, 116, 117, 118, 119, 120, 121, 122]
def chars : List (Int × V) := charCodes.map fun (c : Nat) => (((c : Nat) : Int), V.str ⟨#[c]⟩)
/-! ### the heap but for one object -/
def Off (p : Addr) (H : Hp) : Hp := fun b => if b = p then none else H b
/-- all but p stands -/
def But (p : Addr) (H H' : Hp) : Prop := ∀ b o, b ≠ p → H b = some o → H' b = some o
theorem But.refl (p : Addr) (H : Hp) : But p H H := fun _ _ _ h => h
theorem But.trans {p : Addr} {H H1 H2 : Hp} (a : But p H H1) (b : But p H1 H2) : But p H H2 := fun c o n h => b c o n (a c o n h)
theorem But.of {p : Addr} {H H' : Hp} (s : Same H H') : But p H H' := fun c o _ h => s c o h
theorem But.set {p : Addr} {H : Hp} {o : HO} : But p H (upd H p o) := fun c u n h => by rw [upd_ne n]; exact h
theorem But.new {p q : Addr} {H : Hp} {o : HO} (h : H q = none) : But p H (upd H q o) := fun c u n e => by rw [upd_ne (ne_of_none e h)]; exact e
theorem _root_.L2.Same.new {q : Addr} {H : Hp} {o : HO} (h : H q = none) : Same H (upd H q o) := fun c u e => by rw [upd_ne (ne_of_none e h)]; exact e
theorem But.put {p q : Addr} {H H' : Hp} {o : HO} (b : But p H H') (h : H q = none) : But p H (upd H' q o) := fun u v n e => by rw [upd_ne (ne_of_none e h)]; exact b u v n e
/-- what is true of all values of the heap but p -/
theorem But.none {p q : Addr} {H H' : Hp} (b : But p H H') (n : q ≠ p) (h : H' q = Option.none) : H q = Option.none := by
  cases e : H q with
  | none => rfl
  | some o => rw [b q o n e] at h; cases h
/-! ### the pen: a list of cells, how many were taken, what is left of the last -/
structure Pen (H : Hp) (p c : Addr) (n : Nat) : Prop where
  ex : ∃ (at_ : Nat) (acc : Int) (ns : List Int), H p = some (.lst [.ref c, .int (at_ : Nat), .int acc]) ∧ H c = some (.lst (ns.map V.int)) ∧ c ≠ p ∧ ns.length ≤ 63 ∧ at_ ≤ n
theorem Pen.mono {H : Hp} {p c : Addr} {n m : Nat} (h : Pen H p c n) (l : n ≤ m) : Pen H p c m := by
  obtain ⟨a, acc, ns, h1, h2, h3, h4, h5⟩ := h.ex
  exact ⟨a, acc, ns, h1, h2, h3, h4, Nat.le_trans h5 l⟩
theorem Pen.keep {H H' : Hp} {p c : Addr} {n : Nat} (h : Pen H p c n) (k : Same H H') : Pen H' p c n := by
  obtain ⟨a, acc, ns, h1, h2, h3, h4, h5⟩ := h.ex
  exact ⟨a, acc, ns, k _ _ h1, k _ _ h2, h3, h4, h5⟩
theorem Pen.some {H : Hp} {p c : Addr} {n : Nat} (h : Pen H p c n) : (∃ xs, H p = some (.lst xs)) ∧ ∃ xs, H c = some (.lst xs) := by
  obtain ⟨a, acc, ns, h1, h2, h3, h4, h5⟩ := h.ex
  exact ⟨⟨_, h1⟩, ⟨_, h2⟩⟩
theorem Pen.ne {H : Hp} {p c q : Addr} {n : Nat} (h : Pen H p c n) (hq : H q = none) : p ≠ q := by
  obtain ⟨⟨xs, e⟩, _⟩ := h.some
  exact ne_of_none e hq
theorem Pen.nec {H : Hp} {p c q : Addr} {n : Nat} (h : Pen H p c n) (hq : H q = none) : c ≠ q := by
  obtain ⟨_, ⟨xs, e⟩⟩ := h.some
  exact ne_of_none e hq
theorem Pen.upd {H : Hp} {p c q : Addr} {n : Nat} {o : HO} (h : Pen H p c n) (h1 : p ≠ q) (h2 : c ≠ q) : Pen (upd H q o) p c n := by
  obtain ⟨a, acc, ns, e1, e2, e3, e4, e5⟩ := h.ex
  exact ⟨a, acc, ns, by rw [upd_ne h1]; exact e1, by rw [upd_ne h2]; exact e2, e3, e4, e5⟩
/-- a draw: the pen may turn, all else stands -/
structure Drew (p c : Addr) (H H' : Hp) (n : Nat) : Prop where
  pen : Pen H' p c n
  but : But p H H'
theorem Drew.trans {p c : Addr} {H H1 H2 : Hp} {n m : Nat} (a : Drew p c H H1 n) (b : Drew p c H1 H2 m) : Drew p c H H2 m := ⟨b.pen, a.but.trans b.but⟩
theorem Drew.keep {p c : Addr} {H H1 H2 : Hp} {n : Nat} (a : Drew p c H H1 n) (s : Same H1 H2) : Drew p c H H2 n := ⟨a.pen.keep s, a.but.trans (But.of s)⟩
theorem Drew.mono {p c : Addr} {H H1 : Hp} {n m : Nat} (a : Drew p c H H1 n) (l : n ≤ m) : Drew p c H H1 m := ⟨a.pen.mono l, a.but⟩
theorem Drew.pre {p c : Addr} {H H1 H2 : Hp} {n : Nat} (s : Same H H1) (a : Drew p c H1 H2 n) : Drew p c H H2 n := ⟨a.pen, (But.of s).trans a.but⟩
/-- law's: a list of at most 63 ints is handed in, True comes out -/
def spLaw (K : PySem.W.Frag) : Sp := fun vs H Q _ => ∃ (a : Addr) (ns : List Int), vs = [.ref a] ∧ SqL K H a (ns.map V.int) ∧ ns.length ≤ 63 ∧ ∀ H', Q (.bl true) H'
end Fld
namespace Fld
open PySem PySem.Spec PyProof.Rows L2
/-! ### what kind of value -/
inductive Kind (K : PySem.W.Frag) (H : Hp) : V → String → Prop where
  | non : Kind K H .non "NoneType"
  | bl (b : Bool) : Kind K H (.bl b) "bool"
  | int (i : Int) : Kind K H (.int i) "int"
  | str (x : Str) : Kind K H (.str x) "str"
  | flt (x : UInt64) : Kind K H (.flt x) "float"
  | lst {a : Addr} {xs : List V} (h : SqL K H a xs) : Kind K H (.ref a) "list"
  | tup {a : Addr} {xs : List V} (h : SqT K H a xs) : Kind K H (.ref a) "tuple"
  | dK {a : Addr} {kvs : List (Key × V)} (h : H a = some (.dK kvs)) : Kind K H (.ref a) "dict"
theorem tyL {K : PySem.W.Frag} {H : Hp} {a : Addr} {xs : List V} (h : SqL K H a xs) : TyX K H (.ref a) (.type "list") := by
  rcases h with (h | ⟨o, h⟩) | ⟨o, its, n, h1, h2, _⟩
  · exact .base (.lst h)
  · exact .base (.frz h)
  · exact .kList h1 h2
theorem tyT {K : PySem.W.Frag} {H : Hp} {a : Addr} {xs : List V} (h : SqT K H a xs) : TyX K H (.ref a) (.type "tuple") := by
  rcases h with (h | ⟨o, h⟩) | ⟨o, its, n, h1, h2, _⟩
  · exact .base (.tup h)
  · exact .fTuple h
  · exact .kTuple h1 h2
theorem Kind.ty {K : PySem.W.Frag} {H : Hp} {v : V} {t : String} (k : Kind K H v t) : TyX K H v (.type t) := by
  cases k with
  | non => exact .base .non
  | bl b => exact .base (.bl b)
  | int i => exact .base (.int i)
  | str x => exact .base (.str x)
  | flt x => exact .base (.flt x)
  | lst h => exact tyL h
  | tup h => exact tyT h
  | dK h => exact .base (.dK h)
def subT (a b : String) : Bool := a == b || (a == "bool" && b == "int")
def clsNames : List String := ["int", "bool", "str", "list", "tuple", "dict"]
theorem kitAll : (["NoneType", "bool", "int", "str", "float", "list", "tuple", "dict"].all fun a => clsNames.all fun b => kitB a b == some (subT a b)) = true := by decide +kernel
theorem Kind.mem {K : PySem.W.Frag} {H : Hp} {v : V} {t : String} (k : Kind K H v t) : t ∈ ["NoneType", "bool", "int", "str", "float", "list", "tuple", "dict"] := by
  cases k <;> decide
theorem Kind.kit {K : PySem.W.Frag} {H : Hp} {v : V} {t b : String} (k : Kind K H v t) (hb : clsNames.contains b = true := by decide) : PySem.W.kitOne K (.type t) (.type b) = some (subT t b) := by
  have h := List.all_eq_true.mp kitAll t k.mem
  have h2 := List.all_eq_true.mp h b (List.contains_iff_mem.mp hb)
  exact kit_ty (eq_of_beq h2)
theorem Kind.kit2 {K : PySem.W.Frag} {H : Hp} {v : V} {t b c : String} (k : Kind K H v t) (hb : clsNames.contains b = true := by decide) (hc : clsNames.contains c = true := by decide) :
    PySem.W.kitAny K (.type t) [.type b, .type c] = some (subT t b || subT t c) := by
  refine kitAny_cons (k.kit hb) (fun e => ?_) fun e => ?_
  · rw [e]
    refine kitAny_cons (k.kit hc) (fun e2 => ?_) fun e2 => ?_
    · rw [e2]; exact kitAny_nil
    · rw [e2]; rfl
  · rw [e]; rfl
theorem Kind.keep {K : PySem.W.Frag} {H H' : Hp} {v : V} {t : String} (k : Kind K H v t) (s : Same H H') : Kind K H' v t := by
  cases k with
  | non => exact .non
  | bl b => exact .bl b
  | int i => exact .int i
  | str x => exact .str x
  | flt x => exact .flt x
  | lst h => exact .lst (s.seq h)
  | @tup a xs h =>
    refine .tup (xs := xs) ?_
    rcases h with (h | ⟨o, h⟩) | h
    · exact .inl (.inl (s _ _ h))
    · exact .inl (.inr ⟨o, s _ _ h⟩)
    · exact .inr h
  | dK h => exact .dK (s _ _ h)
theorem ifb {c : Bool} {A B : Prop} (h1 : c = true → A) (h2 : c = false → B) : if c = true then A else B := by
  cases c
  · rw [if_neg (by decide)]; exact h2 rfl
  · rw [if_pos rfl]; exact h1 rfl
theorem Q_bl {Q : VK} {a b : Bool} {H : Hp} (h : Q (.bl a) H) (e : a = b) : Q (.bl b) H := e ▸ h
theorem Q_int {Q : VK} {a b : Int} {H : Hp} (h : Q (.int a) H) (e : a = b) : Q (.int b) H := e ▸ h
/-! ### is_between -/
def btw : V → Int → Int → Bool
  | .int i, a, b => decide (a ≤ i) && decide (i ≤ b)
  | _, _, _ => false
def sp_is_between (K : PySem.W.Frag) : Sp := fun vs H Q _ => ∃ (v : V) (t : String) (a b : Int), vs = [v, .int a, .int b] ∧ Kind K H v t ∧ Q (.bl (btw v a b)) H
end Fld
namespace Fld
open PySem PySem.Spec PyProof.Rows L2
/-! ### comprehensions -/
section
variable {J : It} {n : Nat} {G : Hp → Prop} {Y : Nat → Hp → V → Hp → Prop} {g : TG} {tt : TT} {te : TE} {vs : List Nat} {σ : L2.St} {H1 : Hp} {D : Addr} {Qd : Hp → Prop}
theorem yesI {σ : L2.St} {H : Hp} {A B : Hp → Prop} (h : A H) : tYes σ H (fun b H3 => if b = true then A H3 else B H3) := by
  show (if true = true then A H else B H)
  rw [if_pos rfl]; exact h
/-- by an invariant of the turn, the items so far, the heap -/
theorem lc_gen (w : Walk J n G Y) (I : Nat → List V → Hp → Prop) (hz : n ≤ 10000000) (h0 : I 0 [] (upd H1 D (.lst []))) (hG : ∀ i ys H, I i ys H → G H)
    (hs : ∀ i ys x H' H'' (Q' : VK) (Z : Hp → Prop), i < n → ys.length = i → H' D = some (.lst ys) → I i ys H' → Y i H' x H'' → (∀ y H4, H4 D = some (.lst ys) → I (i + 1) (ys ++ [y]) (upd H4 D (.lst (ys ++ [y]))) → Q' y H4) →
      g x (wipe σ vs) H'' fun σ2 H2 => wipe σ2 vs = wipe σ vs ∧ tYes σ2 H2 fun b H3 => if b = true then te σ2 H3 Q' else Z H3)
    (hd : ∀ ys H', ys.length = n → H' D = some (.lst ys) → I n ys H' → Qd H') :
    ∃ W : Nat → Nat → Hp → Prop, (∃ m, W 0 m (upd H1 D (.lst []))) ∧ ∀ i m H, W i m H →
      (J.stop i H ∧ Qd H) ∨ (J.go i H ∧ ∃ Nx : Hp → Prop, (∀ H', Nx H' → ∃ m', m' < m ∧ W (i + 1) m' H') ∧ ∀ x H', J.yld i H x H' → g x (wipe σ vs) H' fun σ2 H2 => wipe σ2 vs = wipe σ vs ∧ tYes σ2 H2 fun b H3 =>
        if b = true then te σ2 H3 fun y H4 => ∃ acc, H4 D = some (.lst acc) ∧ acc.length < sizeLine ∧ Nx (upd H4 D (.lst (acc ++ [y]))) else Nx H3) := by
  refine lc_it w (fun i H => ∃ ys : List V, ys.length = i ∧ H D = some (.lst ys) ∧ I i ys H) ⟨[], rfl, upd_same, h0⟩ (fun i H _ ⟨ys, _, _, h⟩ => hG i ys H h) ?_ ?_
  · rintro i x H H' hi ⟨ys, hl, hD, h⟩ y
    refine hs i ys x H H' _ _ hi hl hD h y fun z H4 e4 h4 => ?_
    refine ⟨ys, e4, ?_, ys ++ [z], by simp [hl], upd_same, h4⟩
    rw [sizeLine_eq]
    omega
  · rintro H ⟨ys, hl, hD, h⟩
    exact hd ys H hl hD h
/-- each item its value, all that stood stands -/
theorem lc_map (w : Walk J n G Y) (f : Nat → V) (hz : n ≤ 10000000) (hD : H1 D = none) (hG : ∀ H, Same H1 H → G H)
    (hs : ∀ i x H' H'' (Q' : VK) (Z : Hp → Prop), i < n → Same H1 H' → Y i H' x H'' → (∀ H4, Same H' H4 → Q' (f i) H4) →
      g x (wipe σ vs) H'' fun σ2 H2 => wipe σ2 vs = wipe σ vs ∧ tYes σ2 H2 fun b H3 => if b = true then te σ2 H3 Q' else Z H3)
    (hd : ∀ H', Same H1 H' → H' D = some (.lst ((List.range n).map f)) → Qd H') :
    ∃ W : Nat → Nat → Hp → Prop, (∃ m, W 0 m (upd H1 D (.lst []))) ∧ ∀ i m H, W i m H →
      (J.stop i H ∧ Qd H) ∨ (J.go i H ∧ ∃ Nx : Hp → Prop, (∀ H', Nx H' → ∃ m', m' < m ∧ W (i + 1) m' H') ∧ ∀ x H', J.yld i H x H' → g x (wipe σ vs) H' fun σ2 H2 => wipe σ2 vs = wipe σ vs ∧ tYes σ2 H2 fun b H3 =>
        if b = true then te σ2 H3 fun y H4 => ∃ acc, H4 D = some (.lst acc) ∧ acc.length < sizeLine ∧ Nx (upd H4 D (.lst (acc ++ [y]))) else Nx H3) := by
  have up : ∀ H o, Same H1 H → Same H1 (upd H D o) := fun H o s b u e => by rw [upd_ne (ne_of_none e hD)]; exact s b u e
  refine lc_gen w (fun i ys H => Same H1 H ∧ ys = (List.range i).map f) hz ⟨up _ _ (Same.refl _), rfl⟩ (fun i ys H h => hG H h.1) ?_ ?_
  · rintro i ys x H H' Q' Z hi hl hDl ⟨s, rfl⟩ y q
    refine hs i x H H' Q' Z hi s y fun H4 s4 => q (f i) H4 (s4 D _ hDl) ⟨up _ _ (s.trans s4), ?_⟩
    rw [List.range_succ, List.map_append]
    rfl
  · rintro ys H hl hDl ⟨s, rfl⟩
    exact hd H s hDl
end
/-- the items of a list by their places -/
theorem range_map {α β : Type} (l : List α) (f : α → β) (d : α) : (List.range l.length).map (fun i => f (l.getD i d)) = l.map f := by
  apply List.ext_getElem?
  intro i
  by_cases h : i < l.length
  · simp [h]
  · have h2 : l.length ≤ i := Nat.not_lt.mp h
    simp [h2]
theorem getD_of {α : Type} {l : List α} {i : Nat} {c : α} (d : α) (h : l[i]? = some c) : l.getD i d = c := by
  rw [List.getD_eq_getElem?_getD, h]; rfl
theorem cps_at {x : Str} {i c : Nat} (h : x.cps[i]? = some c) : x.cps.toList[i]? = some c := by
  rw [Array.getElem?_toList]; exact h
/-! ### texts and numbers -/
def isChar (c : Nat) : Bool := charCodes.contains c
theorem valI_chars (c : Nat) : (valI chars (c : Int)) = if isChar c then some (.str ⟨#[c]⟩) else none := by
  unfold valI chars isChar
  have h : ∀ l : List Nat, ((l.map fun (c : Nat) => (((c : Nat) : Int), V.str ⟨#[c]⟩)).find? fun p => p.1 == (c : Int)).map (·.2) = if l.contains c then some (V.str ⟨#[c]⟩) else none := by
    intro l
    induction l with
    | nil => rfl
    | cons a r ih =>
      rw [List.map_cons, List.find?_cons, List.contains_cons]
      by_cases e : a = c
      · subst e; simp
      · have e1 : (((a : Nat) : Int) == (c : Int)) = false := by
          rw [beq_eq_false_iff_ne]; intro q; exact e (by omega)
        have e2 : (c == a) = false := by rw [beq_eq_false_iff_ne]; exact fun q => e q.symm
        simp only [e1, e2, Bool.false_or]
        exact ih
  exact h charCodes
def txt : V → Int → Int → Bool
  | .str x, a, b => decide (a ≤ (x.length : Int)) && decide ((x.length : Int) ≤ b) && x.cps.toList.all isChar
  | _, _, _ => false
def sp_is_text (K : PySem.W.Frag) : Sp := fun vs H Q _ => ∃ (v : V) (t : String) (a b : Int), vs = [v, .int a, .int b] ∧ Kind K H v t ∧ (∀ x, v = .str x → x.length ≤ 100000) ∧ ∀ H', Same H H' → Q (.bl (txt v a b)) H'
def sp_is_value (K : PySem.W.Frag) : Sp := fun vs H Q _ => ∃ (v : V) (t : String), vs = [v] ∧ Kind K H v t ∧ (∀ x, v = .str x → x.length ≤ 100000) ∧ ∀ H', Same H H' → Q (.bl (txt v 0 40)) H'
def sp_is_number (K : PySem.W.Frag) : Sp := fun vs H Q _ => ∃ (v : V) (t : String), vs = [v] ∧ Kind K H v t ∧ Q (.bl (btw v 0 9999)) H
def sp_prefix_bits : Sp := fun vs H Q _ => ∃ (b : Nat), vs = [.int (b : Nat)] ∧ b ≤ 64 ∧ Q (.int (2 ^ b - 1)) H
theorem len100 {n : Nat} (h : n ≤ 100000) : n ≤ sizeLine := by rw [sizeLine_eq]; omega
theorem str_len (x : Str) : x.length = x.cps.toList.length := rfl
end Fld
namespace Fld
open PySem PySem.Spec PyProof.Rows L2
theorem ifF {c : Bool} {A B : Prop} (h : c = false) (b : B) : if c = true then A else B := by
  rw [h, if_neg (by decide)]; exact b
theorem ifT {c : Bool} {A B : Prop} (h : c = true) (a : A) : if c = true then A else B := by
  rw [h, if_pos rfl]; exact a
theorem _root_.L2.Same.at {H H' : Hp} {p : Addr} {o : HO} (hp : H p = none) : Same H (upd H p o) := Same.new hp
theorem _root_.L2.Same.put {H H' : Hp} {p : Addr} {o : HO} (s : Same H H') (hp : H p = none) : Same H (upd H' p o) := fun b u e => by rw [upd_ne (ne_of_none e hp)]; exact s b u e
theorem _root_.L2.Same.tup {K : PySem.W.Frag} {H H' : Hp} {a : Addr} {xs : List V} (s : Same H H') (h : SqT K H a xs) : SqT K H' a xs := by
  rcases h with (h | ⟨o, h⟩) | h
  · exact .inl (.inl (s _ _ h))
  · exact .inl (.inr ⟨o, s _ _ h⟩)
  · exact .inr h
theorem btw_t {n a b : Int} (h1 : a ≤ n) (h2 : n ≤ b) : btw (.int n) a b = true := by
  show (decide (a ≤ n) && decide (n ≤ b)) = true
  rw [decide_eq_true h1, decide_eq_true h2]; rfl
/-! ### the octets of a number -/
def restOct (r : Nat) : List Int := if r < 128 then [(r : Int)] else (128 + (r : Int) % 128) :: restOct (r / 128)
termination_by r
theorem restOct_lt {r : Nat} (h : r < 128) : restOct r = [(r : Int)] := by rw [restOct, if_pos h]
theorem restOct_ge {r : Nat} (h : ¬ r < 128) : restOct r = (128 + (r : Int) % 128) :: restOct (r / 128) := by rw [restOct, if_neg h]
theorem restOct_len (r : Nat) : (restOct r).length ≤ r + 1 := by
  induction r using Nat.strongRecOn with
  | _ r ih =>
    by_cases h : r < 128
    · rw [restOct_lt h]; simp
    · rw [restOct_ge h, List.length_cons]
      have := ih (r / 128) (by omega)
      omega
def numOct (n b m : Nat) : List Int := if n < 2 ^ b - 1 then [((m + n : Nat) : Int)] else ((m + (2 ^ b - 1) : Nat) : Int) :: restOct (n - (2 ^ b - 1))
theorem numOct_len (n b m : Nat) : (numOct n b m).length ≤ n + 2 := by
  unfold numOct
  split
  · simp
  · have := restOct_len (n - (2 ^ b - 1))
    rw [List.length_cons]
    omega
theorem pow_pos2 (b : Nat) : 0 < 2 ^ b := Nat.pow_pos (by decide)
theorem bits_cast (b : Nat) : ((2 : Int) ^ b - 1) = ((2 ^ b - 1 : Nat) : Int) := by
  have h := pow_pos2 b
  have e : ((2 : Int) ^ b) = ((2 ^ b : Nat) : Int) := by norm_cast
  rw [e]
  omega
theorem pow_le8 {b : Nat} (h : b ≤ 8) : 2 ^ b ≤ 256 := Nat.le_trans (Nat.pow_le_pow_right (by decide) h) (by decide)
/-- a mark that leaves the prefix alone -/
def MarkOk (b m : Nat) : Prop := 1 ≤ b ∧ b ≤ 8 ∧ m ≤ 255 ∧ Builtin.bitAnd (m : Int) (((2 ^ b - 1 : Nat)) : Int) = 0
theorem and127 {r : Int} (h : 0 ≤ r) : Builtin.bitAnd r 127 = r % 128 := Bits.bitAnd_mask 7 h
/-- a new list of ints is handed back -/
def RetInts (ns : List Int) (H : Hp) (Q : VK) : Prop := ∀ p H', H p = none → Same H H' → H' p = some (.lst (ns.map V.int)) → Q (.ref p) H'
def sp_check_prefix : Sp := fun vs H Q _ => ∃ b m : Nat, vs = [.int (b : Nat), .int (m : Nat)] ∧ MarkOk b m ∧ Q .non H
def sp_number_octets : Sp := fun vs H Q _ => ∃ n b m : Nat, vs = [.int (n : Nat), .int (b : Nat), .int (m : Nat)] ∧ n ≤ 9999 ∧ MarkOk b m ∧ RetInts (numOct n b m) H Q
def sp_string_octets : Sp := fun vs H Q _ => ∃ (x : Str) (b m : Nat), vs = [.str x, .int (b : Nat), .int (m : Nat)] ∧ txt (.str x) 0 40 = true ∧ MarkOk b m ∧ RetInts (numOct x.length b m ++ x.cps.toList.map fun (c : Nat) => (c : Int)) H Q
def sp_law_number_octets : Sp := fun vs H Q _ => ∃ n b m : Nat, vs = [.int (n : Nat), .int (b : Nat), .int (m : Nat)] ∧ n ≤ 9999 ∧ b ≤ 8 ∧ RetInts (numOct n b m) H Q
def codeOf (c : Nat) : Int := if isChar c then (c : Int) else 0
def sp_law_code : Sp := fun vs H Q _ => ∃ c : Nat, vs = [.str ⟨#[c]⟩] ∧ ∀ H', Same H H' → Q (.int (codeOf c)) H'
def sp_law_text_octets : Sp := fun vs H Q _ => ∃ (x : Str) (b m : Nat), vs = [.str x, .int (b : Nat), .int (m : Nat)] ∧ x.length ≤ 9999 ∧ b ≤ 8 ∧ RetInts (numOct x.length b m ++ x.cps.toList.map codeOf) H Q
theorem txt_len {x : Str} (h : txt (.str x) 0 40 = true) : x.length ≤ 40 := by
  have h' : (decide ((0 : Int) ≤ (x.length : Int)) && decide ((x.length : Int) ≤ 40) && x.cps.toList.all isChar) = true := h
  simp only [Bool.and_eq_true, decide_eq_true_eq] at h'
  omega
theorem txt_all {x : Str} {a b : Int} (h : txt (.str x) a b = true) : x.cps.toList.all isChar = true := by
  have h' : (decide (a ≤ (x.length : Int)) && decide ((x.length : Int) ≤ b) && x.cps.toList.all isChar) = true := h
  rw [Bool.and_eq_true] at h'
  exact h'.2
def codeRows : List (List Nat) := [(" " : Str).cps.toList, ("-./0123456789:;" : Str).cps.toList, ("=" : Str).cps.toList, ("abcdefghijklmnopqrstuvwxyz" : Str).cps.toList]
theorem codeRows_all : codeRows.flatten = charCodes := by decide +kernel
theorem code_yes {c : Nat} (i : Nat) {r : List Nat} (h : codeRows[i]? = some r) (hm : c ∈ r) : isChar c = true := by
  unfold isChar
  rw [← codeRows_all]
  exact List.contains_iff_mem.mpr (List.mem_flatten.mpr ⟨r, List.mem_of_getElem? h, hm⟩)
theorem code_no {c : Nat} (i : Nat) {r : List Nat} (h : codeRows[i]? = some r) (hc : c ∉ (codeRows.take i).flatten) (hm : c ∉ r) : c ∉ (codeRows.take (i + 1)).flatten := by
  rw [List.take_add_one, h, List.flatten_append]
  intro z
  rcases List.mem_append.mp z with z | z
  · exact hc z
  · exact hm (by simpa using z)
theorem code_none {c : Nat} (hc : c ∉ (codeRows.take 4).flatten) : isChar c = false := by
  unfold isChar
  rw [← codeRows_all]
  have e : codeRows.take 4 = codeRows := rfl
  rw [e] at hc
  cases h : codeRows.flatten.contains c
  · rfl
  · exact absurd (List.contains_iff_mem.mp h) hc
theorem row_ok {x : Str} {first : Nat} (h : ((List.range x.cps.size).all fun i => x.cps.toList.getD i 0 == first + i) = true) : ∀ i r, x.cps[i]? = some r → r = first + i := by
  intro i r hr
  have hi : i < x.cps.size := (Array.getElem?_eq_some_iff.mp hr).1
  have e := eq_of_beq (List.all_eq_true.mp h i (List.mem_range.mpr hi))
  rw [getD_of 0 (cps_at hr)] at e
  exact e
theorem codes_chars {x : Str} (h : x.cps.toList.all isChar = true) : x.cps.toList.map codeOf = x.cps.toList.map fun (c : Nat) => (c : Int) := by
  apply List.map_congr_left
  intro c hc
  have := List.all_eq_true.mp h c hc
  unfold codeOf
  rw [if_pos this]
end Fld
namespace Fld
open PySem PySem.Spec PyProof.Rows L2
theorem at_ofN {α : Type} {xs : List α} {z : Int} {j : Nat} {v : α} (e : z = (j : Int)) (h : xs[j]? = some v) : atI xs z = some v := by
  rw [e]; exact atI_nat h
/-! ### slices by places -/
theorem cut_to (xs : List V) (k : Nat) : cutV xs none (some (k : Int)) = xs.take k := by
  unfold cutV
  rw [HT.sIx_none, HT.sIx_nat, List.drop_zero, Nat.sub_zero]
  by_cases h : k ≤ xs.length
  · rw [Nat.min_eq_left h]
  · rw [Nat.min_eq_right (by omega), List.take_of_length_le (Nat.le_refl _), List.take_of_length_le (by omega)]
theorem cut_mid (xs : List V) (a b : Nat) : cutV xs (some (a : Int)) (some (b : Int)) = (xs.drop a).take (b - a) := by
  unfold cutV
  rw [HT.sIx_nat, HT.sIx_nat]
  by_cases h : a ≤ xs.length
  · have e1 : min a xs.length = a := by omega
    rw [e1]
    by_cases h2 : b ≤ xs.length
    · have e2 : min b xs.length = b := by omega
      rw [e2]
    · rw [List.take_of_length_le (by rw [List.length_drop]; omega), List.take_of_length_le (by rw [List.length_drop]; omega)]
  · have e1 : min a xs.length = xs.length := by omega
    rw [e1, List.drop_eq_nil_of_le (Nat.le_refl _), List.drop_eq_nil_of_le (by omega), List.take_nil, List.take_nil]
theorem cut_from (xs : List V) (a : Nat) : cutV xs (some (a : Int)) none = xs.drop a := by
  unfold cutV
  rw [HT.sIx_nat, HT.sIx_none]
  by_cases h : a ≤ xs.length
  · rw [Nat.min_eq_left h, List.take_of_length_le (by rw [List.length_drop]; omega)]
  · rw [Nat.min_eq_right (by omega), List.drop_eq_nil_of_le (Nat.le_refl _), List.drop_eq_nil_of_le (by omega), List.take_nil]
/-! ### the spread -/
def primes : List Int := [2147483629, 2147483587, 2147483579, 2147483563, 2147483549, 2147483543, 2147483497, 2147483489, 2147483477, 2147483423, 2147483399, 2147483353, 2147483323]
theorem primes_at {k : Int} (h0 : 0 ≤ k) (h : k < 13) : ∃ r : Int, atI (primes.map V.int) k = some (.int r) ∧ 0 < r ∧ r < 2147483648 := by
  have hk : k.toNat < 13 := by omega
  have ek : k = ((k.toNat : Nat) : Int) := by omega
  have hall : ((List.range 13).all fun i => (primes[i]?).any fun r => decide (0 < r) && decide (r < 2147483648)) = true := by decide
  have h1 := List.all_eq_true.mp hall k.toNat (List.mem_range.mpr hk)
  cases e : primes[k.toNat]? with
  | none => rw [e] at h1; cases h1
  | some r =>
    rw [e] at h1
    have h2 : (decide (0 < r) && decide (r < 2147483648)) = true := h1
    rw [Bool.and_eq_true, decide_eq_true_eq, decide_eq_true_eq] at h2
    refine ⟨r, ?_, h2.1, h2.2⟩
    rw [ek]
    exact atI_nat (by rw [List.getElem?_map, e]; rfl)
theorem pow_small {i : Int} (h0 : 0 ≤ i) (h : i < 10 ^ 18) : i.natAbs < 2 ^ 64 := by
  have : (10 : Int) ^ 18 < 2 ^ 63 := by decide
  have e : (2 : Nat) ^ 64 = 18446744073709551616 := by decide
  have e2 : (10 : Int) ^ 18 = 1000000000000000000 := by decide
  omega
theorem mul_bd {a b A B : Int} (h1 : 0 ≤ a) (h2 : a ≤ A) (h3 : 0 ≤ b) (h4 : b ≤ B) : 0 ≤ a * b ∧ a * b ≤ A * B :=
  ⟨Int.mul_nonneg h1 h3, Int.mul_le_mul h2 h4 h3 (Int.le_trans h1 h2)⟩
theorem mul64 {a b : Int} (h1 : 0 ≤ a) (h2 : a < 10 ^ 18) : CMul a b := by
  have e : (2 : Int) ^ 64 = 18446744073709551616 := by decide
  have e2 : (10 : Int) ^ 18 = 1000000000000000000 := by decide
  refine .inl ⟨?_, ?_⟩ <;> omega
def sp_law_spread : Sp := fun vs H Q _ => ∃ (cell : Int) (a : Nat), vs = [.int cell, .int (a : Nat)] ∧ a ≤ 1000000 ∧ ∀ (r : Int) H', Same H H' → Q (.int r) H'
def sp_law_open (K : PySem.W.Frag) : Sp := fun vs H Q _ => ∃ (a : Addr) (ns : List Int), vs = [.ref a] ∧ SqL K H a (ns.map V.int) ∧ ns.length ≤ 63 ∧ ∀ p c H', H p = none → Same H H' → Pen H' p c 0 → Q (.ref p) H'
def sp_law_take : Sp := fun vs H Q _ => ∃ (p c : Addr) (n : Nat) (k : Int), vs = [.ref p, .int k] ∧ Pen H p c n ∧ 0 < k ∧ k < 1073741824 ∧ n ≤ 900000 ∧ ∀ (r : Int) H', 0 ≤ r → r < k → Drew p c H H' (n + 1) → Q (.int r) H'
/-- one of a list's items, whatever they are -/
def sp_law_one_of (K : PySem.W.Frag) : Sp := fun vs H Q _ => ∃ (p c a : Addr) (n : Nat) (xs : List V), vs = [.ref p, .ref a] ∧ Pen H p c n ∧ SqL K H a xs ∧ a ≠ p ∧ xs ≠ [] ∧ xs.length ≤ 1000 ∧ n ≤ 900000 ∧ ∀ (x : V) H', x ∈ xs → Drew p c H H' (n + 1) → Q x H'
def signs : Str := " -./0123456789:;=abcdefghijklmnopqrstuvwxyz"
def sp_law_signs : Sp := fun vs H Q _ => vs = [] ∧ Q (.str signs) H
theorem signs_cps : signs.cps.toList = charCodes := by decide +kernel
theorem But.seq {K : PySem.W.Frag} {p : Addr} {H H' : Hp} {a : Addr} {xs : List V} (b : But p H H') (n : a ≠ p) (h : SqL K H a xs) : SqL K H' a xs := by
  rcases h with (h | ⟨o, h⟩) | h
  · exact .inl (.inl (b _ _ n h))
  · exact .inl (.inr ⟨o, b _ _ n h⟩)
  · exact .inr h
end Fld
namespace Fld
open PySem PySem.Spec PyProof.Rows L2
def sp_law_draw_text : Sp := fun vs H Q _ => ∃ (p c : Addr) (n a b : Nat), vs = [.ref p, .int (a : Nat), .int (b : Nat)] ∧ Pen H p c n ∧ n ≤ 800000 ∧ a ≤ 1 ∧ a ≤ b ∧ b ≤ 40 ∧ ∀ (x : Str) H', txt (.str x) a b = true → Drew p c H H' (n + 50) → Q (.str x) H'
def sp_law_draw_number : Sp := fun vs H Q _ => ∃ (p c : Addr) (n : Nat), vs = [.ref p] ∧ Pen H p c n ∧ n ≤ 800000 ∧ ∀ (z : Nat) H', z ≤ 9999 → Drew p c H H' (n + 10) → Q (.int (z : Nat)) H'
theorem txt_of {x : Str} {a b : Int} (h1 : a ≤ (x.length : Int)) (h2 : (x.length : Int) ≤ b) (h3 : x.cps.toList.all isChar = true) : txt (.str x) a b = true := by
  show (decide (a ≤ (x.length : Int)) && decide ((x.length : Int) ≤ b) && x.cps.toList.all isChar) = true
  rw [decide_eq_true h1, decide_eq_true h2, h3]; rfl
/-- a text of one sign after another -/
theorem join_signs (cs : List Nat) : Txt.join ⟨#[]⟩ (cs.map fun c => (⟨#[c]⟩ : Str)) = ⟨cs.toArray⟩ := by
  rw [TL.join_eq]
  apply TL.ext_tl
  rw [TL.tl_join]
  have h : ∀ l : List Nat, TL.joinL (TL.tl (⟨#[]⟩ : Str)) ((l.map fun c => (⟨#[c]⟩ : Str)).map TL.tl) = l := by
    intro l
    induction l with
    | nil => rfl
    | cons a r ih =>
      cases r with
      | nil => rfl
      | cons b r' =>
        show [a] ++ ([] ++ TL.joinL [] _) = a :: b :: r'
        exact congrArg (a :: ·) ih
  rw [h]
/-- the first signs of a word repeated -/
theorem rep_all {z : Str} {n : Nat} (h : z.cps.toList.all isChar = true) : (repS z n).cps.toList.all isChar = true := by
  rw [repS_tl]
  rw [List.all_eq_true]
  intro c hc
  obtain ⟨l, hl, hcl⟩ := List.mem_flatten.mp hc
  rw [List.mem_replicate] at hl
  rw [hl.2] at hcl
  exact List.all_eq_true.mp h c hcl
theorem rep_len (z : Str) (n : Nat) : (repS z n).length = n * z.length := by
  show (List.replicate n z.cps.toList).flatten.toArray.size = _
  simp
  rfl
theorem cutS_to (x : Str) (k : Nat) : (cutS x none (some (k : Int))).cps.toList = x.cps.toList.take k := by
  unfold cutS
  show (x.cps.toList.drop _).take _ = _
  rw [HT.sIx_none, HT.sIx_nat, List.drop_zero, Nat.sub_zero]
  have e : x.length = x.cps.toList.length := rfl
  rw [e]
  by_cases h : k ≤ x.cps.toList.length
  · rw [Nat.min_eq_left h]
  · rw [Nat.min_eq_right (by omega), List.take_of_length_le (Nat.le_refl _), List.take_of_length_le (by omega)]
theorem txt_cut {x : Str} {a b k : Nat} (h1 : 9 ≤ x.length) (h2 : a ≤ 1 ∧ a ≤ k ∧ k ≤ b) (h3 : x.cps.toList.all isChar = true) : txt (.str (cutS x none (some (k : Int)))) a b = true := by
  have e : (cutS x none (some (k : Int))).cps.toList = x.cps.toList.take k := cutS_to x k
  have hl : (cutS x none (some (k : Int))).length = min k x.length := by
    show (cutS x none (some (k : Int))).cps.size = _
    rw [← Array.length_toList, e, List.length_take]
    rfl
  refine txt_of (by omega) (by omega) ?_
  rw [e, List.all_eq_true]
  intro c hc
  exact List.all_eq_true.mp h3 c (List.mem_of_mem_take hc)
def textWords : List Str := ["path", "accept-encoding", "a", ":method", "x=1; y=2"]
theorem words_ok : (textWords.all fun z => z.cps.toList.all isChar && decide (0 < z.length) && decide (z.length ≤ 15)) = true := by decide +kernel
/-! ### data of a bounded depth -/
def DLe : Nat → PyData → Prop
  | _, .none => True
  | _, .bool _ => True
  | _, .int _ => True
  | _, .str _ => True
  | 0, .list _ => False
  | 0, .tuple _ => False
  | n + 1, .list ds => ds.length ≤ 100000 ∧ ∀ d ∈ ds, DLe n d
  | n + 1, .tuple ds => ds.length ≤ 100000 ∧ ∀ d ∈ ds, DLe n d
  | _, _ => False
theorem dpAll_len {K : PySem.W.Frag} {H : Hp} : ∀ {xs : List V} {ds : List PyData}, DpAll K H xs ds → xs.length = ds.length
  | _, _, .nil => rfl
  | _, _, .cons _ t => by rw [List.length_cons, List.length_cons, dpAll_len t]
theorem dpAll_at {K : PySem.W.Frag} {H : Hp} : ∀ {xs : List V} {ds : List PyData} {i : Nat} {x : V}, DpAll K H xs ds → xs[i]? = some x → ∃ d, ds[i]? = some d ∧ Dp K H x d
  | _, _, _, _, .nil, e => by simp at e
  | _, _, 0, _, .cons h _, e => by simp at e; subst e; exact ⟨_, rfl, h⟩
  | _, _, i + 1, x, .cons _ t, e => by
    obtain ⟨d, h1, h2⟩ := dpAll_at (i := i) (x := x) t (by simpa using e)
    exact ⟨d, by simpa using h1, h2⟩
mutual
theorem dp_keep {K : PySem.W.Frag} {H H' : Hp} (s : Same H H') : ∀ {v : V} {d : PyData}, Dp K H v d → Dp K H' v d
  | _, _, .non => .non
  | _, _, .bl b => .bl b
  | _, _, .int i => .int i
  | _, _, .str x => .str x
  | _, _, .lst h a => .lst (s.seq h) (dpAll_keep s a)
  | _, _, .tup h a => .tup (s.tup h) (dpAll_keep s a)
theorem dpAll_keep {K : PySem.W.Frag} {H H' : Hp} (s : Same H H') : ∀ {vs : List V} {ds : List PyData}, DpAll K H vs ds → DpAll K H' vs ds
  | _, _, .nil => .nil
  | _, _, .cons h t => .cons (dp_keep s h) (dpAll_keep s t)
end
/-- _law_same on two values of the same data -/
def sp_law_same (K : PySem.W.Frag) (n : Nat) : Sp := fun vs H Q _ => ∃ (v u : V) (d : PyData), vs = [v, u] ∧ Dp K H v d ∧ Dp K H u d ∧ DLe n d ∧ ∀ H', Same H H' → Q (.bl true) H'
def sp_same_sub (K : PySem.W.Frag) : Nat → Sp
  | 0 => fun _ _ _ _ => False
  | m + 1 => sp_law_same K m
theorem walk_zipT {K : PySem.W.Frag} {a b : Addr} {xs ys : List V} {n : Nat} (hn : n = min xs.length ys.length) : Walk (RZ.ItzT K a b) n (fun H => SqT K H a xs ∧ SqT K H b ys) (YPair (fun i => xs[i]?) (fun i => ys[i]?)) := by
  subst hn
  refine ⟨fun i _ hi q => ?_, fun _ q => ⟨xs, ys, q.1, q.2, by omega⟩, fun i H v H' _ q y => ?_⟩
  · have h1 : i < xs.length := by omega
    have h2 : i < ys.length := by omega
    exact ⟨xs, ys, xs[i], ys[i], q.1, q.2, by simp [h1], by simp [h2]⟩
  · obtain ⟨T, x, z, h1, h2, h3, h4, h5⟩ := y
    exact ⟨T, x, z, h1, h2, h3, h4 xs q.1, h5 ys q.2⟩
theorem flat_trues (n : Nat) : ((List.range n).map fun _ => V.bl true).all flatV = true := by
  rw [List.all_map]; exact List.all_eq_true.mpr fun _ _ => rfl
theorem in_trues (n : Nat) : inV (.bl false) ((List.range n).map fun _ => V.bl true) = false := by
  unfold inV
  rw [List.any_map, List.any_eq_false]
  intro i _
  show ¬ (eqV (.bl true) (.bl false)) = true
  decide
/-- ints as data -/
theorem dp_ints {K : PySem.W.Frag} {H : Hp} : ∀ ns : List Int, DpAll K H (ns.map V.int) (ns.map PyData.int)
  | [] => .nil
  | n :: r => .cons (.int n) (dp_ints r)
theorem dp_lst {K : PySem.W.Frag} {H : Hp} {a : Addr} {ns : List Int} (h : H a = some (.lst (ns.map V.int))) : Dp K H (.ref a) (.list (ns.map PyData.int)) := .lst (SqL.of h) (dp_ints ns)
theorem dle_ints {ns : List Int} (h : ns.length ≤ 100000) (n : Nat) : DLe (n + 1) (.list (ns.map PyData.int)) := by
  refine ⟨by rw [List.length_map]; exact h, fun d hd => ?_⟩
  obtain ⟨i, _, rfl⟩ := List.mem_map.mp hd
  cases n <;> exact True.intro
end Fld
/-! The law's own def where what runs around it is known: no repr, no == is under way (Around.guards), so that repr of data may be walked in it. -/
namespace Fld
open PySem PySem.Spec PyProof.Rows L2
/-- a def as it is called from outside -/
structure TopOk (P : Program) (w : World) (K : PySem.W.Frag) (mg : Str → Option Value) (k : Nat) (f : Addr) (fd : FuncData) (ps : List Str) (sp : Sp) : Prop where
  len : ∀ vs H Q E, sp vs H Q E → vs.length = ps.length
  run : ∀ (base : Heap) (s : Shared) (H : Hp) (args : Args) (us : List Value) (vs : List V) (Q : VK) (E : XK), Room k callerA → Env0 P w K mg base callerA [] s H → BindsTo s fd args (ps.zip us) → Vals vs us → sp vs H Q E →
    codeAny (model P w) callerA (.call (.ref f) args) (CR CX0 [] P w H s Q E) s
/-- its body as a term of rules and the term's reading, the guards told -/
theorem top_of {P : Program} {w : World} {K : PySem.W.Frag} {mg : Str → Option Value} {x qual : Str} {st : Stmt} {f : Addr} {fd : FuncData} {N ps : List Str} {k : Nat} {sp : Sp} (F : Fun K x qual st f fd) (S : FnScope N ps (defScope st))
    (len : ∀ vs H Q E, sp vs H Q E → vs.length = ps.length)
    (hbody : ∀ (base : Heap) (cdv : Value) (A : Around) (outer : List Env) (s : Shared) (H : Hp) (vs : List V) (Q : VK) (E : XK), A.guards = some [] → Room k (A.deeper (envOfC qual (defScope st) s.heap.objs.size f cdv)) → sp vs H Q E →
      ∃ t, PSs (cxOf CX0 P w K mg base N qual (defScope st) f cdv A outer s H E).nox (defBody st) t ∧ t { nx := fun _ H' => Q .non H', rt := Q } (start N vs) H) :
    TopOk P w K mg (k + 1) f fd ps sp := by
  obtain ⟨oc, od, kV, doc, pm, an, cdv, ct, osl, rfl, lk, hcd⟩ := F.ex
  refine ⟨len, ?_⟩
  intro base s H args us vs Q E hr e0 hb r hsp
  have old := fun b o (e : base.get? b = some o) => (e0.bs b o e).1
  have KX : K.In s.heap := e0.mod.kin.keeps old
  have kinds : ∀ y ∈ ps.zip us, (defScope st).names.lookup y.1 = some .local ∨ ((defScope st).names.lookup y.1 = some .cell ∧ ((cellsFrom (s.heap.objs.size + 1) (defScope st).names []).lookup y.1).isSome = true) := by
    rintro ⟨n, v⟩ hy
    have hp := S.par n (List.of_mem_zip hy).1
    exact hp.elim Or.inl fun q => Or.inr ⟨q, PySem.W.cellsFrom_some _ _ _ (Or.inl q)⟩
  refine codeAny_call_function hr.depth (KX _ _ lk) rfl S.co S.gen rfl (PySem.W.codeRec_of KX hcd) (hb _ _ _ _ (wpAny_newFunctionEnv_cells S.kind kinds ?_))
  intro env he s1 x
  cases he
  refine ⟨(e0.mod.nolimit.keeps old).keeps x.toInCall.keep, codeAny_func ?_⟩
  obtain ⟨t, ht, hq⟩ := hbody base cdv callerA [] s H vs Q E rfl (hr.deeper _) hsp
  have I := inv_start (CX := CX0) (E := E) S hr.hd e0 (len _ _ _ _ hsp) r x
  refine wpAny_mono (ht.nox.run [] s1 (start N vs) H _ I hq) ?_ fun _ _ z => z
  intro fl s' hs
  match fl, hs with
  | .ret u, ⟨v, _, H', J, rv, q⟩ => exact ⟨v, H', J.os, J.bare, J.base, J.hok, rv, q⟩
  | .next, ⟨_, H', J, q⟩ => exact ⟨V.non, H', J.os, J.bare, J.base, J.hok, rfl, q⟩
  | .brk, ⟨_, _, _, q⟩ => exact q.elim
  | .cont, ⟨_, _, _, q⟩ => exact q.elim
/-- the abstract heap at the law's entry: the script alone, locked, or nothing where it is one of the module's own -/
theorem entry_heap {P : Program} {w : World} {K : PySem.W.Frag} {s : Shared} {a : Addr} {vs : List Value} {ns : List Int} (KX : K.In s.heap) (ha : s.heap.get? a = some { cls := .type "list", data := .seq vs.toArray }) (hi : IntsAre vs ns) (hl : ns.length ≤ sizeLine) :
    ∃ H : Hp, Only H ∧ SqL K H a (ns.map V.int) ∧ HOk P w H s.heap ∧ (∀ b, H b ≠ none → b = a) ∧ (H a ≠ none → K.lookup a = none) := by
  have rv := vals_of_ints hi
  cases hk : K.lookup a with
  | some o =>
    have e := (KX a o hk).symm.trans ha
    cases e
    refine ⟨fun _ => none, fun _ => .inl rfl, .inr ⟨_, vs.toArray, _, hk, rfl, rfl, rfl, ?_, by simpa using rv⟩, fun b u z => (nomatch z), fun b z => absurd rfl z, fun z => absurd rfl z⟩
    rw [List.size_toArray, hi.length]
    exact hl
  | none =>
    let H : Hp := fun b => if b = a then some (.frz { cls := .type "list", data := .seq vs.toArray } (.lst (ns.map V.int))) else none
    have at_a : H a = some (.frz { cls := .type "list", data := .seq vs.toArray } (.lst (ns.map V.int))) := if_pos rfl
    have off : ∀ b, b ≠ a → H b = none := fun b hb => if_neg hb
    refine ⟨H, fun b => ?_, .inl (.inr ⟨_, at_a⟩), fun b u z => ?_, fun b z => ?_, fun _ => rfl⟩
    · by_cases hb : b = a
      · subst hb; exact .inr ⟨_, _, at_a⟩
      · exact .inl (off b hb)
    · by_cases hb : b = a
      · subst hb
        rw [at_a] at z
        cases z
        exact ⟨ha, by rw [List.length_map]; exact hl, vs, _, rv, ha⟩
      · rw [off b hb] at z
        cases z
    · by_cases hb : b = a
      · exact hb
      · exact absurd (off b hb) z
theorem top_call {P : Program} {w : World} {K : PySem.W.Frag} {mg mb : Str → Option Value} {k : Nat} {fa a : Addr} {fd : FuncData} {x : Str} {sp : Sp} {s : Shared} {vs : List Value} {ns : List Int}
    (KX : K.In s.heap) (hns : s.heap.Ns mainGlobals mg) (hb : s.heap.Ns builtinsNs mb) (hbb : ∀ x : Str, x ≠ "__name__" → mb x = bootBuiltins x) (hlim : s.heap.NoLimit) (hg : s.gens = #[])
    (ha : s.heap.get? a = some { cls := .type "list", data := .seq vs.toArray }) (hi : IntsAre vs ns) (hl : ns.length ≤ sizeLine) (hr : Room k callerA) (F : TopOk P w K mg k fa fd [x] sp) (hbind : ∀ (s : Shared) (u : Value), BindsTo s fd ⟨[u], []⟩ [(x, u)])
    (hsp : ∀ H : Hp, Only H → SqL K H a (ns.map V.int) → sp [.ref a] H (fun v _ => v = .bl true) fun _ _ _ => False) :
    codeAny (model P w) callerA (.call (.ref fa) ⟨[.ref a], []⟩) (fun r s' => r = .ok (.ret (.bool true)) ∧ OldK s.heap s'.heap ∧ s'.os = s.os ∧ AllBare s'.gens) s := by
  obtain ⟨H, hO, hS, hok, hA, hK⟩ := entry_heap (P := P) (w := w) KX ha hi hl
  have other : ∀ {b : Addr} {o : Obj}, s.heap.get? b = some o → (b = a → False) → (hidT s.heap H).get? b = some o := fun {b o} e n => hidT_get e (by
    cases q : H b with
    | none => rfl
    | some u => exact (n (hA b (by rw [q]; simp))).elim)
  have noD : ∀ {b : Addr} {m : Str → Option Value}, s.heap.Ns b m → (hidT s.heap H).Ns b m := fun {b m} ⟨o, es, ep, e, d, r⟩ => ⟨o, es, ep, other e (fun z => by
    rw [z, ha] at e; cases e; cases d), d, r⟩
  have inK : K.In (hidT s.heap H) := fun b o e => hidT_get (KX b o e) (by
    cases q : H b with
    | none => rfl
    | some u =>
      have z := hA b (by rw [q]; simp)
      subst z
      rw [hK (by rw [q]; simp)] at e
      cases e)
  have M : Mod K mg (hidT s.heap H) := ⟨inK, noD hns, ⟨mb, noD hb, hbb⟩, let ⟨mc, h1, h2⟩ := hlim; ⟨mc, noD h1, h2⟩⟩
  have none_in : ∀ b : Addr, b ∉ frs [] := fun b z => (nomatch (show b ∈ ([] : List Addr) from z))
  have e0 : Env0 P w K mg (hidT s.heap H) callerA [] s H := { frames := rfl, mod := M, bs := fun b o e => of_hidT e, bsz := Nat.le_of_eq (hidT_size _ _), funs := trivial, frf := fun b z => (none_in b z).elim, hok := hok, bare := .of_eq hg }
  refine codeAny_mono (F.run _ s H ⟨[.ref a], []⟩ [.ref a] [.ref a] _ _ hr e0 (hbind s (.ref a)) (.cons rfl .nil) (hsp H hO hS)) ?_
  intro r s' h
  match r, h with
  | .ok (.ret u), ⟨v, H', os, bare, un, hok', rv, q⟩ =>
    cases (show v = .bl true from q)
    cases (show u = Value.bool true from rv)
    refine ⟨rfl, OldK.of_keep fun b o e => ?_, os, bare⟩
    rcases hO b with z | ⟨ob, xs, z⟩
    · exact un.keep b o e z (none_in b) (by simp)
    · have e1 := (hok b _ z).1
      rw [e] at e1
      cases e1
      exact (hok' b _ (un.frzs b _ _ z)).1
theorem walk_top {l : PySem.W.OpenLaw} {n k : Nat} {q : Program} {loose : List Str} {XP : (Str → Option Value) → Heap → Prop} {YP : World → Heap → Prop} {d : DefRec} {K : Params → PySem.W.Frag} {sp : World → Sp} {x : Str}
    (hn : l.most = some n) (hn2 : n ≤ sizeLine) (hdf : d.params.defaults = []) (hr : Room k callerA)
    (hY : ∀ (w : World) (h : Heap), YP w h → (K w.params).In h)
    (F : ∀ (w : World) (mg : Str → Option Value) (fa : Addr) (h : Heap), (K w.params).In h → h.Ns mainGlobals mg → mg d.name = some (.ref fa) →
      ∃ fd : FuncData, (∀ (s : Shared) (u : Value), BindsTo s fd ⟨[u], []⟩ [(x, u)]) ∧ TopOk l.prog w (K w.params) mg k fa fd [x] (sp w))
    (hsp : ∀ (w : World) (H : Hp) (a : Addr) (ns : List Int), ns.length ≤ n → Only H → SqL (K w.params) H a (ns.map V.int) → sp w [.ref a] H (fun v _ => v = .bl true) fun _ _ _ => False) :
    PySem.W.WalkO q loose XP YP l.row.toRowW d [] (fun f vs => PySem.call f vs) := by
  refine Att.attach_call hn hdf ?_
  intro w s₀ s₁ mg mb fa o pm cd doc a vs ns G Y ho hd hcd hmg hobj hints hlen hg
  obtain ⟨fd, hbi, hF⟩ := F w mg fa _ (hY w _ Y) G.T.g hmg
  exact top_call (hY w _ Y) G.T.g G.T.b G.T.builtins G.T.nolimit hg hobj hints (Nat.le_trans hlen hn2) hr hF hbi fun H hO hS => hsp w H a ns hlen hO hS
end Fld
/-! repr of data: how long its text may be, and the rule of the call. -/
namespace Fld
open PySem PySem.Spec PyProof.Rows L2
mutual
def okD : PyData → Bool
  | .none => true
  | .bool _ => true
  | .int i => decide (i.natAbs < 2 ^ 1000)
  | .str x => x.cps.toList.all fun c => decide (c < 4294967296)
  | .list xs => okAll xs
  | .tuple xs => okAll xs
  | .dict _ => false
def okAll : List PyData → Bool
  | [] => true
  | x :: xs => okD x && okAll xs
end
mutual
/-- no less than the length of its text -/
def wD : PyData → Nat
  | .none => 4
  | .bool _ => 5
  | .int _ => 1010
  | .str x => 10 * x.length + 2
  | .list xs => wAll xs + 4
  | .tuple xs => wAll xs + 4
  | .dict _ => 0
def wAll : List PyData → Nat
  | [] => 0
  | x :: xs => wD x + 2 + wAll xs
end
theorem textFrom_le : ∀ (ts : List Str) (k : Nat) (acc : Str), (textFrom k acc ts).length ≤ acc.length + piled ts
  | [], k, acc => by show acc.length ≤ _; omega
  | t :: r, k, acc => by
    have ih := textFrom_le r (k + 1) (acc ++ (if k > 0 then ", " else "" : String) ++ t)
    have e : (acc ++ (if k > 0 then ", " else "" : String) ++ t).length ≤ acc.length + 2 + t.length := by
      rw [strLen_append, strLen_append]
      split
      · exact Nat.le_refl _
      · show acc.length + 0 + t.length ≤ _; omega
    have e2 : piled (t :: r) = t.length + 2 + piled r := by unfold piled; rw [List.map_cons, List.sum_cons]
    show (textFrom (k + 1) _ r).length ≤ _
    omega
theorem listText_le (ts : List Str) : (listText ts).length ≤ piled ts + 4 := by
  unfold listText
  rw [strLen_append]
  have h := textFrom_le ts 0 "["
  have e1 : ((("[" : String) : Str)).length = 1 := rfl
  have e2 : ((("]" : String) : Str)).length = 1 := rfl
  omega
theorem tupleText_le (ts : List Str) : (tupleText ts).length ≤ piled ts + 4 := by
  unfold tupleText
  rw [strLen_append, strLen_append]
  have e1 : ((("(" : String) : Str)).length = 1 := rfl
  have e3 : (((if ts.length == 1 then ",)" else ")" : String) : Str)).length ≤ 2 := by split <;> decide
  by_cases h : ts = []
  · subst h
    have e0 : (Str.join ", " []).length = 0 := rfl
    omega
  · have := join_length_add ts h
    omega
theorem toString_le {i : Int} (h : i.natAbs < 2 ^ 1000) : (Str.ofString (toString i)).length ≤ 1010 := by
  have h1 : (Nat.repr i.natAbs).length ≤ 1000 := nat_repr_length_le (by decide) h
  have e : ∀ z : String, (Str.ofString z).length = z.length := fun z => by
    rw [TL.len_tl, TL.tl_ofString, List.length_map]
    rfl
  rw [e]
  cases i with
  | ofNat n =>
    have : (toString (Int.ofNat n)) = Nat.repr n := rfl
    rw [this]
    have h2 : (Nat.repr n).length ≤ 1000 := h1
    omega
  | negSucc n =>
    have : (toString (Int.negSucc n)) = "-" ++ Nat.repr (n + 1) := rfl
    rw [this, String.length_append]
    have h2 : (Nat.repr (n + 1)).length ≤ 1000 := h1
    have h3 : ("-" : String).length = 1 := rfl
    omega
theorem log_le {n : Nat} (h : n < 2 ^ 1000) : n.log2 < 1920 := by
  by_cases e : n = 0
  · subst e; decide
  · exact Nat.lt_trans ((Nat.log2_lt e).mpr h) (by decide)
mutual
theorem shown_le : ∀ d : PyData, okD d = true → d.shown.length ≤ wD d ∧ d.showable = true ∧ d.hasDict = false
  | .none, _ => ⟨by decide, rfl, rfl⟩
  | .bool b, _ => ⟨by cases b <;> decide, rfl, rfl⟩
  | .int i, h => by
    have h' : i.natAbs < 2 ^ 1000 := of_decide_eq_true (show decide _ = true from h)
    exact ⟨toString_le h', decide_eq_true (log_le h'), rfl⟩
  | .str x, h => by
    refine ⟨StrLaws.reprText_len x fun c hc => ?_, rfl, rfl⟩
    have h' : (x.cps.toList.all fun c => decide (c < 4294967296)) = true := h
    have := of_decide_eq_true (List.all_eq_true.mp h' c hc)
    have e : (16 : Nat) ^ 8 = 4294967296 := by decide
    omega
  | .list xs, h => by
    have ih := shownAll_le xs h
    refine ⟨?_, by rw [PyData.showable]; exact ih.2.1, by rw [PyData.hasDict]; exact ih.2.2⟩
    rw [PyData.shown, wD]
    have := listText_le (PyData.shownAll xs)
    omega
  | .tuple xs, h => by
    have ih := shownAll_le xs h
    refine ⟨?_, by rw [PyData.showable]; exact ih.2.1, by rw [PyData.hasDict]; exact ih.2.2⟩
    rw [PyData.shown, wD]
    have := tupleText_le (PyData.shownAll xs)
    omega
  | .dict _, h => by cases h
theorem shownAll_le : ∀ ds : List PyData, okAll ds = true → piled (PyData.shownAll ds) ≤ wAll ds ∧ PyData.showableAll ds = true ∧ PyData.hasDictAll ds = false
  | [], _ => ⟨by rw [PyData.shownAll]; exact Nat.le_refl _, rfl, rfl⟩
  | d :: ds, h => by
    have h' : (okD d && okAll ds) = true := by rw [okAll] at h; exact h
    rw [Bool.and_eq_true] at h'
    have i1 := shown_le d h'.1
    have i2 := shownAll_le ds h'.2
    refine ⟨?_, by rw [PyData.showableAll, i1.2.1, i2.2.1]; rfl, by rw [PyData.hasDictAll, i1.2.2, i2.2.2]; rfl⟩
    rw [PyData.shownAll, wAll]
    have e2 : piled (d.shown :: PyData.shownAll ds) = d.shown.length + 2 + piled (PyData.shownAll ds) := by unfold piled; rw [List.map_cons, List.sum_cons]
    omega
end
mutual
theorem dle_depth : ∀ (d : PyData) (n : Nat), DLe n d → d.depth ≤ n
  | .none, _, _ => by rw [PyData.depth]; omega
  | .bool _, _, _ => by rw [PyData.depth]; omega
  | .int _, _, _ => by rw [PyData.depth]; omega
  | .str _, _, _ => by rw [PyData.depth]; omega
  | .list xs, 0, h => (by simp [DLe] at h)
  | .list xs, n + 1, h => by
    have h' : xs.length ≤ 100000 ∧ ∀ d ∈ xs, DLe n d := by simpa [DLe] using h
    rw [PyData.depth]
    have := dle_depthAll xs n h'.2
    omega
  | .tuple xs, 0, h => (by simp [DLe] at h)
  | .tuple xs, n + 1, h => by
    have h' : xs.length ≤ 100000 ∧ ∀ d ∈ xs, DLe n d := by simpa [DLe] using h
    rw [PyData.depth]
    have := dle_depthAll xs n h'.2
    omega
  | .dict _, n, h => by cases n <;> simp [DLe] at h
theorem dle_depthAll : ∀ (ds : List PyData) (n : Nat), (∀ d ∈ ds, DLe n d) → PyData.depthAll ds ≤ n
  | [], _, _ => by rw [PyData.depthAll]; omega
  | d :: ds, n, h => by
    rw [PyData.depthAll]
    have h1 := dle_depth d n (h d (List.mem_cons_self ..))
    have h2 := dle_depthAll ds n fun e he => h e (List.mem_cons_of_mem _ he)
    omega
end
def rRepr (K : PySem.W.Frag) : List V → Hp → VK → Prop := fun xs H Q => ∃ (x : V) (d : PyData) (n : Nat), xs = [x] ∧ Dp K H x d ∧ okD d = true ∧ DLe n d ∧ n ≤ 40 ∧ wD d ≤ 10000000 ∧ Q (.str d.shown) H
theorem call_repr {X : Cx} (hg : X.A.guards = some []) (hu : X.A.units + 64 < cLine) : CallR X (.builtin "repr") (rRepr X.K) := by
  intro pins s σ H xs us Q I r h
  obtain ⟨x, d, n, rfl, hd, ok, hn, hn2, hw, q⟩ := h
  obtain ⟨u, rfl, ru⟩ := vals1 r
  obtain ⟨hl, hs, hnd⟩ := shown_le d ok
  have hsz : d.shown.length ≤ sizeLine := by rw [sizeLine_eq]; omega
  obtain ⟨as, rd⟩ := Dp.reads I d x u hd ru
  have hdep := dle_depth d n hn
  cases hd with
  | non =>
    cases ru
    exact P.repr_of_none ⟨.str _, H, I.tok _, ⟨_, rfl⟩, q⟩
  | bl b =>
    cases ru
    exact P.repr_of_bool ⟨.str _, H, I.tok _, ⟨_, rfl⟩, q⟩
  | int i =>
    obtain ⟨t, rfl⟩ := ru
    have h' : i.natAbs < 2 ^ 1000 := of_decide_eq_true (show decide _ = true from ok)
    exact P.repr_of_int (log_le h') ⟨.str _, H, I.tok _, ⟨_, rfl⟩, q⟩
  | str y =>
    obtain ⟨t, rfl⟩ := ru
    exact P.repr_of_str ⟨.str _, H, I.tok _, ⟨_, rfl⟩, q⟩ hsz
  | lst _ _ =>
    cases ru
    exact repr_of_reads' rd hs (PyData.noDict_hsm hnd) hg (by omega) (fun _ _ e => e) (fun h' tu tk hk => ⟨.str _, H, I.kept hk, ⟨_, rfl⟩, q⟩) hsz
  | tup _ _ =>
    cases ru
    exact repr_of_reads' rd hs (PyData.noDict_hsm hnd) hg (by omega) (fun _ _ e => e) (fun h' tu tk hk => ⟨.str _, H, I.kept hk, ⟨_, rfl⟩, q⟩) hsz
end Fld
/-! values of any kind, dicts with int and text keys among them: their data, what isinstance, repr and == with a text say of them -/
namespace Fld
open PySem PySem.Spec PyProof.Rows L2
def ofK : Key → PyData
  | .inl i => .int i
  | .inr x => .str x
mutual
inductive Dv (K : PySem.W.Frag) (H : Hp) : V → PyData → Prop
  | non : Dv K H .non .none
  | bl (b : Bool) : Dv K H (.bl b) (.bool b)
  | int (i : Int) : Dv K H (.int i) (.int i)
  | str (x : Str) : Dv K H (.str x) (.str x)
  | lst {a : Addr} {xs : List V} {ds : List PyData} : SqL K H a xs → DvAll K H xs ds → Dv K H (.ref a) (.list ds)
  | tup {a : Addr} {xs : List V} {ds : List PyData} : SqT K H a xs → DvAll K H xs ds → Dv K H (.ref a) (.tuple ds)
  | dic {a : Addr} {kvs : List (Key × V)} {ps : List (PyData × PyData)} : H a = some (.dK kvs) → kvs.map (fun p => ofK p.1) = ps.map (·.1) → DvAll K H (kvs.map (·.2)) (ps.map (·.2)) → Dv K H (.ref a) (.dict ps)
inductive DvAll (K : PySem.W.Frag) (H : Hp) : List V → List PyData → Prop
  | nil : DvAll K H [] []
  | cons {v : V} {vs : List V} {d : PyData} {ds : List PyData} : Dv K H v d → DvAll K H vs ds → DvAll K H (v :: vs) (d :: ds)
end
mutual
theorem Dv.keep {K : PySem.W.Frag} {H H' : Hp} (s : Same H H') : ∀ {v : V} {d : PyData}, Dv K H v d → Dv K H' v d
  | _, _, .non => .non
  | _, _, .bl b => .bl b
  | _, _, .int i => .int i
  | _, _, .str x => .str x
  | _, _, .lst h a => .lst (s.seq h) (DvAll.keep s a)
  | _, _, .tup h a => .tup (s.tup h) (DvAll.keep s a)
  | _, _, .dic h e a => .dic (s _ _ h) e (DvAll.keep s a)
theorem DvAll.keep {K : PySem.W.Frag} {H H' : Hp} (s : Same H H') : ∀ {vs : List V} {ds : List PyData}, DvAll K H vs ds → DvAll K H' vs ds
  | _, _, .nil => .nil
  | _, _, .cons h t => .cons (Dv.keep s h) (DvAll.keep s t)
end
mutual
theorem Dv.ofDp {K : PySem.W.Frag} {H : Hp} : ∀ {v : V} {d : PyData}, Dp K H v d → Dv K H v d
  | _, _, .non => .non
  | _, _, .bl b => .bl b
  | _, _, .int i => .int i
  | _, _, .str x => .str x
  | _, _, .lst h a => .lst h (DvAll.ofDp a)
  | _, _, .tup h a => .tup h (DvAll.ofDp a)
theorem DvAll.ofDp {K : PySem.W.Frag} {H : Hp} : ∀ {vs : List V} {ds : List PyData}, DpAll K H vs ds → DvAll K H vs ds
  | _, _, .nil => .nil
  | _, _, .cons h t => .cons (Dv.ofDp h) (DvAll.ofDp t)
end
/-! no dict within -/
mutual
def noDict : PyData → Bool
  | .list xs => noDictAll xs
  | .tuple xs => noDictAll xs
  | .dict _ => false
  | _ => true
def noDictAll : List PyData → Bool
  | [] => true
  | x :: xs => noDict x && noDictAll xs
end
mutual
theorem Dv.dp {K : PySem.W.Frag} {H : Hp} : ∀ {v : V} {d : PyData}, Dv K H v d → noDict d = true → Dp K H v d
  | _, _, .non, _ => .non
  | _, _, .bl b, _ => .bl b
  | _, _, .int i, _ => .int i
  | _, _, .str x, _ => .str x
  | _, _, .lst h a, n => .lst h (DvAll.dp a (by simpa [noDict] using n))
  | _, _, .tup h a, n => .tup h (DvAll.dp a (by simpa [noDict] using n))
  | _, _, .dic h e a, n => by simp [noDict] at n
theorem DvAll.dp {K : PySem.W.Frag} {H : Hp} : ∀ {vs : List V} {ds : List PyData}, DvAll K H vs ds → noDictAll ds = true → DpAll K H vs ds
  | _, _, .nil, _ => .nil
  | _, _, .cons h t, n => by
    rw [noDictAll, Bool.and_eq_true] at n
    exact .cons (Dv.dp h n.1) (DvAll.dp t n.2)
end
def tyD : PyData → String
  | .none => "NoneType"
  | .bool _ => "bool"
  | .int _ => "int"
  | .str _ => "str"
  | .list _ => "list"
  | .tuple _ => "tuple"
  | .dict _ => "dict"
theorem Dv.kind {K : PySem.W.Frag} {H : Hp} {v : V} {d : PyData} (h : Dv K H v d) : Kind K H v (tyD d) := by
  cases h with
  | non => exact .non
  | bl b => exact .bl b
  | int i => exact .int i
  | str x => exact .str x
  | lst h a => exact .lst h
  | tup h a => exact .tup h
  | dic h e a => exact .dK h
theorem DvAll.len {K : PySem.W.Frag} {H : Hp} : ∀ {xs : List V} {ds : List PyData}, DvAll K H xs ds → xs.length = ds.length
  | _, _, .nil => rfl
  | _, _, .cons _ t => by rw [List.length_cons, List.length_cons, DvAll.len t]
theorem DvAll.at {K : PySem.W.Frag} {H : Hp} : ∀ {xs : List V} {ds : List PyData} {i : Nat} {x : V}, DvAll K H xs ds → xs[i]? = some x → ∃ d, ds[i]? = some d ∧ Dv K H x d
  | _, _, _, _, .nil, e => by simp at e
  | _, _, 0, _, .cons h _, e => by simp at e; subst e; exact ⟨_, rfl, h⟩
  | _, _, i + 1, x, .cons _ t, e => by
    obtain ⟨d, h1, h2⟩ := DvAll.at (i := i) (x := x) t (by simpa using e)
    exact ⟨d, by simpa using h1, h2⟩
theorem DvAll.at' {K : PySem.W.Frag} {H : Hp} : ∀ {xs : List V} {ds : List PyData} {i : Nat} {d : PyData}, DvAll K H xs ds → ds[i]? = some d → ∃ x, xs[i]? = some x ∧ Dv K H x d
  | _, _, _, _, .nil, e => by simp at e
  | _, _, 0, _, .cons h _, e => by simp at e; subst e; exact ⟨_, rfl, h⟩
  | _, _, i + 1, x, .cons _ t, e => by
    obtain ⟨d, h1, h2⟩ := DvAll.at' (i := i) (d := x) t (by simpa using e)
    exact ⟨d, by simpa using h1, h2⟩
theorem DvAll.app {K : PySem.W.Frag} {H : Hp} : ∀ {xs ys : List V} {ds es : List PyData}, DvAll K H xs ds → DvAll K H ys es → DvAll K H (xs ++ ys) (ds ++ es)
  | _, _, _, _, .nil, s => s
  | _, _, _, _, .cons r t, s => .cons r (DvAll.app t s)
theorem DvAll.take {K : PySem.W.Frag} {H : Hp} : ∀ {xs : List V} {ds : List PyData} (n : Nat), DvAll K H xs ds → DvAll K H (xs.take n) (ds.take n)
  | _, _, 0, _ => .nil
  | _, _, _ + 1, .nil => .nil
  | _, _, n + 1, .cons r t => .cons r (DvAll.take n t)
theorem DvAll.drop {K : PySem.W.Frag} {H : Hp} : ∀ {xs : List V} {ds : List PyData} (n : Nat), DvAll K H xs ds → DvAll K H (xs.drop n) (ds.drop n)
  | _, _, 0, r => r
  | _, _, _ + 1, .nil => .nil
  | _, _, n + 1, .cons _ t => DvAll.drop n t
theorem DvAll.set {K : PySem.W.Frag} {H : Hp} {x : V} {d : PyData} (r : Dv K H x d) : ∀ {xs : List V} {ds : List PyData} (i : Nat), DvAll K H xs ds → DvAll K H (xs.set i x) (ds.set i d)
  | _, _, _, .nil => .nil
  | _, _, 0, .cons _ t => .cons r t
  | _, _, i + 1, .cons q t => .cons q (DvAll.set r i t)
/-! ### what it reads as -/
theorem pairs_reads {P : Program} {w : World} {h : Heap} : ∀ {es : List DictEntry} {vs : List (Key × Value)}, Pairs (mixKind P w) es vs → (∃ as, ReadsAll h (es.map (·.key)) (vs.map fun p => ofK p.1) as ∧ as = []) ∧ es.map (·.val) = vs.map (·.2)
  | _, _, .nil => ⟨⟨_, .nil, rfl⟩, rfl⟩
  | _, _, .cons (e := e) (kv := kv) hk hv t => by
    obtain ⟨⟨as, h1, h0⟩, h2⟩ := pairs_reads (h := h) t
    refine ⟨?_, by rw [List.map_cons, List.map_cons, h2, hv]⟩
    rcases keyIs_shape (k := kv.1) (v := e.key) hk with ⟨i, u, e1, e2⟩ | ⟨x, u, e1, e2⟩
    · refine ⟨_, ReadsAll.cons (as := []) (bs := as) ?_ h1, by rw [h0]; rfl⟩
      show Reads h e.key (ofK kv.1) []
      rw [e1, e2]
      exact Reads.int i u
    · refine ⟨_, ReadsAll.cons (as := []) (bs := as) ?_ h1, by rw [h0]; rfl⟩
      show Reads h e.key (ofK kv.1) []
      rw [e1, e2]
      exact Reads.str x u
theorem kv_keys {kvs : List (Key × V)} {vs : List (Key × Value)} (r : KV kvs vs) : vs.map (fun p => ofK p.1) = kvs.map fun p => ofK p.1 := by
  have h := r.keys
  have e1 : vs.map (fun p => ofK p.1) = (vs.map (·.1)).map ofK := by rw [List.map_map]; rfl
  have e2 : kvs.map (fun p => ofK p.1) = (kvs.map (·.1)).map ofK := by rw [List.map_map]; rfl
  rw [e1, e2, h]
theorem kv_vals : ∀ {kvs : List (Key × V)} {vs : List (Key × Value)}, KV kvs vs → Vals (kvs.map (·.2)) (vs.map (·.2))
  | _, _, .nil => .nil
  | _, _, .cons r t => .cons r.2 (kv_vals t)
theorem sys_tracked {X : Cx} {pins : List (Addr × Obj)} {σ : L2.St} {H : Hp} {s : Shared} (I : Inv X pins σ H s) {a : Addr} {kvs : List (Key × V)} (e : H a = some (.dK kvs)) : (a == sysModules) = false := (dk_of I.hok e).2.1
mutual
theorem Dv.reads {X : Cx} {pins : List (Addr × Obj)} {σ : L2.St} {H : Hp} {s : Shared} (I : Inv X pins σ H s) : ∀ {d : PyData} {v : V} {u : Value}, Dv X.K H v d → RelV v u → ∃ as, Reads s.heap u d as
  | _, _, _, .non, r => by cases r; exact ⟨_, Reads.none⟩
  | _, _, _, .bl b, r => by cases r; exact ⟨_, Reads.bool b⟩
  | _, _, _, .int i, r => by obtain ⟨t, rfl⟩ := r; exact ⟨_, Reads.int i t⟩
  | _, _, _, .str x, r => by obtain ⟨t, rfl⟩ := r; exact ⟨_, Reads.str x t⟩
  | _, _, _, .lst hs ha, r => by
    cases r
    obtain ⟨its, rv, ⟨o, n, ho, hc, _, hd⟩, _⟩ := I.list hs
    obtain ⟨as, hr⟩ := DvAll.reads I ha rv
    exact ⟨_, Reads.list ho hc hd hr⟩
  | _, _, _, .tup hs ha, r => by
    cases r
    obtain ⟨its, rv, ⟨o, ho, hc, n, hd⟩, _⟩ := I.tuple hs
    obtain ⟨as, hr⟩ := DvAll.reads I ha rv
    exact ⟨_, Reads.tuple ho hc hd hr⟩
  | .dict ps, _, _, .dic (kvs := kvs) hs he ha, r => by
    cases r
    obtain ⟨_, hy, vs, kv, ⟨o, es, ep, ho, ex, hd, _, pr, _⟩⟩ := dk_of I.hok hs
    obtain ⟨⟨as, h1, n1⟩, h2⟩ := pairs_reads (h := s.heap) pr
    obtain ⟨bs, h3⟩ := DvAll.reads I ha (kv_vals kv)
    rw [kv_keys kv, he] at h1
    exact ⟨_, Reads.dict ho ex.1 hd h1 (by rw [h2]; exact h3)⟩
theorem DvAll.reads {X : Cx} {pins : List (Addr × Obj)} {σ : L2.St} {H : Hp} {s : Shared} (I : Inv X pins σ H s) : ∀ {ds : List PyData} {vs : List V} {us : List Value}, DvAll X.K H vs ds → Vals vs us → ∃ as, ReadsAll s.heap us ds as
  | _, _, _, .nil, r => by cases r; exact ⟨_, ReadsAll.nil⟩
  | _, _, _, .cons h1 h2, r => by
    cases r with
    | cons r1 r2 =>
      obtain ⟨as, q1⟩ := Dv.reads I h1 r1
      obtain ⟨bs, q2⟩ := DvAll.reads I h2 r2
      exact ⟨_, ReadsAll.cons q1 q2⟩
end
/-- the text of a value by its parts, none of which is deeper than n -/
def Shw (P : Program) (w : World) (h : Heap) (n : Nat) (u : Value) (t : Str) : Prop := ∃ bs, ReadAtMost h n bs ∧ ReprK P w bs h n u t
def ShwAll (P : Program) (w : World) (h : Heap) (n : Nat) (us : List Value) (ts : List Str) : Prop := ∃ bs, ReadAtMost h n bs ∧ ReprAllK P w bs h n us ts
theorem shw_is {P : Program} {w : World} {h : Heap} {n : Nat} {u : Value} {t : Str} (r : ReprIs P w u t) : Shw P w h n u t := ⟨[], fun _ z => (nomatch z), .of_is r _ _ _⟩
theorem ShwAll.mono {P : Program} {w : World} {h : Heap} {n m : Nat} {us : List Value} {ts : List Str} (l : n ≤ m) : ShwAll P w h n us ts → ShwAll P w h m us ts := fun ⟨bs, a, b⟩ => ⟨bs, a.mono l, b.more_le (fun _ z => z) l⟩
theorem ShwAll.cons {P : Program} {w : World} {h : Heap} {n m : Nat} {u : Value} {t : Str} {us : List Value} {ts : List Str} : Shw P w h n u t → ShwAll P w h m us ts → ShwAll P w h (max n m) (u :: us) (t :: ts) := by
  rintro ⟨bs, a, b⟩ ⟨cs, c, d⟩
  have l1 := Nat.le_max_left n m
  have l2 := Nat.le_max_right n m
  refine ⟨bs ++ cs, (a.mono l1).append (c.mono l2), ReprAllK.cons ((b.more fun z hz => ?_).level_le l1) (d.more_le (fun z hz => ?_) l2)⟩
  · exact List.mem_append.mpr (.inl hz)
  · exact List.mem_append.mpr (.inr hz)
theorem pairs_show {P : Program} {w : World} {h : Heap} : ∀ {es : List DictEntry} {vs : List (Key × Value)}, Pairs (mixKind P w) es vs → PyData.showableAll (vs.map fun p => ofK p.1) = true → (∀ t ∈ PyData.shownAll (vs.map fun p => ofK p.1), t.length ≤ sizeLine) →
    ShwAll P w h (PyData.depthAll (vs.map fun p => ofK p.1)) (es.map (·.key)) (PyData.shownAll (vs.map fun p => ofK p.1))
  | _, _, .nil, _, _ => ⟨[], fun _ z => (nomatch z), by simp only [List.map_nil, PyData.shownAll]; exact .nil⟩
  | _, _, .cons (e := e) (kv := kv) hk hv t, hs, hz => by
    rw [List.map_cons, PyData.showableAll, Bool.and_eq_true] at hs
    rw [List.map_cons, PyData.shownAll] at hz
    rw [List.map_cons, List.map_cons, PyData.shownAll, PyData.depthAll]
    refine ShwAll.cons ?_ (pairs_show t hs.2 fun x hx => hz x (List.mem_cons.mpr (.inr hx)))
    have z1 := hz _ (List.mem_cons.mpr (.inl rfl))
    have s1 := hs.1
    rcases keyIs_shape (k := kv.1) (v := e.key) hk with ⟨i, u, e1, e2⟩ | ⟨x, u, e1, e2⟩
    · rw [e1] at s1 z1 ⊢
      rw [e2]
      have s2 : PyData.showable (.int i) = true := s1
      exact shw_is (ReprIs.int u (by simpa [PyData.showable] using s2))
    · rw [e1] at s1 z1 ⊢
      rw [e2]
      exact shw_is (ReprIs.str x u (by simpa [ofK, PyData.shown] using z1))
mutual
theorem Dv.show {X : Cx} {pins : List (Addr × Obj)} {σ : L2.St} {H : Hp} {s : Shared} (I : Inv X pins σ H s) : ∀ {d : PyData} {v : V} {u : Value}, Dv X.K H v d → RelV v u → d.showable = true → d.shown.length ≤ sizeLine → Shw X.prog X.w s.heap d.depth u d.shown
  | _, _, _, .non, r, _, _ => by cases r; rw [PyData.shown]; exact shw_is ReprIs.none
  | _, _, _, .bl b, r, _, _ => by cases r; rw [PyData.shown]; exact shw_is (ReprIs.bool b)
  | _, _, _, .int i, r, hs, _ => by obtain ⟨t, rfl⟩ := r; rw [PyData.shown]; exact shw_is (ReprIs.int t (by simpa [PyData.showable] using hs))
  | _, _, _, .str x, r, _, hz => by obtain ⟨t, rfl⟩ := r; rw [PyData.shown] at hz ⊢; exact shw_is (ReprIs.str x t hz)
  | .list ds, .ref a, _, .lst hs ha, r, sh, hz => by
    cases r
    obtain ⟨its, rv, ⟨o, n, ho, hc, _, hd⟩, _⟩ := I.list hs
    obtain ⟨as, hr⟩ := DvAll.reads I ha rv
    have rd : Reads s.heap (.ref a) (.list ds) _ := Reads.list ho hc hd hr
    rw [PyData.shown] at hz ⊢
    obtain ⟨bs, hb, hk⟩ := DvAll.show I ha rv (by simpa [PyData.showable] using sh) fun t ht => Nat.le_trans (listText_mem_le ht) hz
    have na : a ∉ bs := not_mem_of_deeper rd (by rw [PyData.depth]; omega) hb
    refine ⟨a :: bs, ReadAtMost.cons rd (by rw [PyData.depth]; omega) hb, ?_⟩
    rw [PyData.depth]
    cases its with
    | nil =>
      cases hr
      simp only [listText_nil, PyData.shownAll]
      exact .listEmpty ho hc hd
    | cons x l => exact .list ho hc hd na (by simpa using hk.length_eq) fun i y e => hk.item i y (by simpa using e)
  | .tuple ds, .ref a, _, .tup hs ha, r, sh, hz => by
    cases r
    obtain ⟨its, rv, ⟨o, ho, hc, n, hd⟩, _⟩ := I.tuple hs
    obtain ⟨as, hr⟩ := DvAll.reads I ha rv
    have rd : Reads s.heap (.ref a) (.tuple ds) _ := Reads.tuple ho hc hd hr
    rw [PyData.shown] at hz ⊢
    obtain ⟨bs, hb, hk⟩ := DvAll.show I ha rv (by simpa [PyData.showable] using sh) fun t ht => Nat.le_trans (tupleText_mem_le ht) hz
    have na : a ∉ bs := not_mem_of_deeper rd (by rw [PyData.depth]; omega) hb
    refine ⟨a :: bs, ReadAtMost.cons rd (by rw [PyData.depth]; omega) hb, ?_⟩
    rw [PyData.depth]
    exact .tuple ho hc hd na hk
  | .dict ps, .ref a, _, .dic (kvs := kvs) hs he ha, r, sh, hz => by
    cases r
    obtain ⟨_, hy, vs, kv, ⟨o, es, ep, ho, ex, hd, _, pr, _⟩⟩ := dk_of I.hok hs
    obtain ⟨⟨as, h1, n1⟩, h2⟩ := pairs_reads (h := s.heap) pr
    obtain ⟨bs, h3⟩ := DvAll.reads I ha (kv_vals kv)
    obtain ⟨sh1, sh2⟩ := PyData.showableKv_split ps (by simpa [PyData.showable] using sh)
    rw [PyData.shown] at hz ⊢
    have k1 := pairs_show (h := s.heap) pr (by rw [kv_keys kv, he]; exact sh1) (fun t ht => by
      rw [kv_keys kv, he] at ht
      obtain ⟨p, hp, hl⟩ := PyData.shownKv_key_le ps t ht
      exact Nat.le_trans hl (Nat.le_trans (dictText_mem_le hp) hz))
    rw [kv_keys kv, he] at k1 h1
    have k2 := DvAll.show I ha (kv_vals kv) sh2 (fun t ht => by
      obtain ⟨p, hp, hl⟩ := PyData.shownKv_val_le ps t ht
      exact Nat.le_trans hl (Nat.le_trans (dictText_mem_le hp) hz))
    rw [← h2] at k2 h3
    have rd : Reads s.heap (.ref a) (.dict ps) _ := Reads.dict ho ex.1 hd h1 h3
    obtain ⟨b1, r1, q1⟩ := k1.mono (PyData.depthAll_keys_le ps)
    obtain ⟨b2, r2, q2⟩ := k2.mono (PyData.depthAll_vals_le ps)
    have hb := r1.append r2
    have na : a ∉ b1 ++ b2 := not_mem_of_deeper rd (by rw [PyData.depth]; omega) hb
    refine ⟨a :: (b1 ++ b2), ReadAtMost.cons rd (by rw [PyData.depth]; omega) hb, ?_⟩
    rw [PyData.depth, PyData.shownKv_eq]
    refine .dict ho ex.1 hd hy na (ReprEntriesK.of_two es.toList _ _ (q1.more_le (fun z hz => ?_) (Nat.le_refl _)) (q2.more_le (fun z hz => ?_) (Nat.le_refl _)))
    · exact List.mem_append.mpr (.inl hz)
    · exact List.mem_append.mpr (.inr hz)
theorem DvAll.show {X : Cx} {pins : List (Addr × Obj)} {σ : L2.St} {H : Hp} {s : Shared} (I : Inv X pins σ H s) : ∀ {ds : List PyData} {vs : List V} {us : List Value}, DvAll X.K H vs ds → Vals vs us → PyData.showableAll ds = true → (∀ t ∈ PyData.shownAll ds, t.length ≤ sizeLine) →
    ShwAll X.prog X.w s.heap (PyData.depthAll ds) us (PyData.shownAll ds)
  | _, _, _, .nil, r, _, _ => by cases r; rw [PyData.shownAll]; exact ⟨[], fun _ z => (nomatch z), .nil⟩
  | _, _, _, .cons h1 h2, r, sh, hz => by
    cases r with
    | cons r1 r2 =>
      rw [PyData.showableAll, Bool.and_eq_true] at sh
      rw [PyData.shownAll] at hz ⊢
      rw [PyData.depthAll]
      exact ShwAll.cons (Dv.show I h1 r1 sh.1 (hz _ (List.mem_cons.mpr (.inl rfl)))) (DvAll.show I h2 r2 sh.2 fun x hx => hz x (List.mem_cons.mpr (.inr hx)))
end
/-! ### weight and repr -/
mutual
def okV : PyData → Bool
  | .none => true
  | .bool _ => true
  | .int i => decide (i.natAbs < 2 ^ 1000)
  | .str x => (x.cps.toList.all fun c => decide (c < 4294967296)) && decide (x.length ≤ 100000)
  | .list xs => okVAll xs
  | .tuple xs => okVAll xs
  | .dict ps => okVKv ps
def okVAll : List PyData → Bool
  | [] => true
  | x :: xs => okV x && okVAll xs
def okVKv : List (PyData × PyData) → Bool
  | [] => true
  | (a, b) :: r => okV a && okV b && okVKv r
end
mutual
/-- no less than the length of its text -/
def wV : PyData → Nat
  | .none => 4
  | .bool _ => 5
  | .int _ => 1010
  | .str x => 10 * x.length + 2
  | .list xs => wVAll xs + 4
  | .tuple xs => wVAll xs + 4
  | .dict ps => wVKv ps + 4
def wVAll : List PyData → Nat
  | [] => 0
  | x :: xs => wV x + 2 + wVAll xs
def wVKv : List (PyData × PyData) → Nat
  | [] => 0
  | (a, b) :: r => wV a + wV b + 6 + wVKv r
end
theorem wVAll_len : ∀ ds : List PyData, ds.length ≤ wVAll ds
  | [] => Nat.le_refl _
  | d :: ds => by have := wVAll_len ds; rw [wVAll, List.length_cons]; omega
theorem wVAll_mem : ∀ {ds : List PyData} {d : PyData}, d ∈ ds → wV d + 2 ≤ wVAll ds
  | e :: ds, d, h => by
    rw [wVAll]
    rcases List.mem_cons.mp h with rfl | h
    · omega
    · have := wVAll_mem h; omega
theorem wVAll_app : ∀ (xs ys : List PyData), wVAll (xs ++ ys) = wVAll xs + wVAll ys
  | [], ys => by rw [List.nil_append, wVAll]; omega
  | x :: xs, ys => by rw [List.cons_append, wVAll, wVAll, wVAll_app xs ys]; omega
theorem okVAll_app : ∀ (xs ys : List PyData), okVAll (xs ++ ys) = (okVAll xs && okVAll ys)
  | [], ys => by rw [List.nil_append, okVAll]; rfl
  | x :: xs, ys => by rw [List.cons_append, okVAll, okVAll, okVAll_app xs ys, Bool.and_assoc]
theorem okVAll_mem : ∀ {ds : List PyData} {d : PyData}, okVAll ds = true → d ∈ ds → okV d = true
  | e :: ds, d, k, h => by
    rw [okVAll, Bool.and_eq_true] at k
    rcases List.mem_cons.mp h with rfl | h
    · exact k.1
    · exact okVAll_mem k.2 h
theorem okVAll_of : ∀ {ds : List PyData}, (∀ d ∈ ds, okV d = true) → okVAll ds = true
  | [], _ => rfl
  | e :: ds, h => by
    rw [okVAll, Bool.and_eq_true]
    exact ⟨h e (List.mem_cons_self ..), okVAll_of fun d hd => h d (List.mem_cons_of_mem _ hd)⟩
theorem dictText_le : ∀ (ps : List (PyData × PyData)), (dictText (PyData.shownKv ps)).length ≤ piled (PyData.shownKv ps) + 4 := by
  intro ps
  unfold dictText
  rw [strLen_append, strLen_append]
  have e1 : ((("{" : String) : Str)).length = 1 := rfl
  have e3 : ((("}" : String) : Str)).length = 1 := rfl
  by_cases h : PyData.shownKv ps = []
  · rw [h]
    have e0 : (Str.join ", " []).length = 0 := rfl
    omega
  · have := join_length_add (PyData.shownKv ps) h
    omega
mutual
theorem shownV_le : ∀ d : PyData, okV d = true → d.shown.length ≤ wV d ∧ d.showable = true
  | .none, _ => ⟨by decide, rfl⟩
  | .bool b, _ => ⟨by cases b <;> decide, rfl⟩
  | .int i, h => by
    have h' : i.natAbs < 2 ^ 1000 := of_decide_eq_true (show decide _ = true from h)
    exact ⟨toString_le h', decide_eq_true (log_le h')⟩
  | .str x, h => by
    refine ⟨StrLaws.reprText_len x fun c hc => ?_, rfl⟩
    have h' : ((x.cps.toList.all fun c => decide (c < 4294967296)) && decide (x.length ≤ 100000)) = true := h
    rw [Bool.and_eq_true] at h'
    have := of_decide_eq_true (List.all_eq_true.mp h'.1 c hc)
    have e : (16 : Nat) ^ 8 = 4294967296 := by decide
    omega
  | .list xs, h => by
    have ih := shownVAll_le xs h
    refine ⟨?_, by rw [PyData.showable]; exact ih.2⟩
    rw [PyData.shown, wV]
    have := listText_le (PyData.shownAll xs)
    omega
  | .tuple xs, h => by
    have ih := shownVAll_le xs h
    refine ⟨?_, by rw [PyData.showable]; exact ih.2⟩
    rw [PyData.shown, wV]
    have := tupleText_le (PyData.shownAll xs)
    omega
  | .dict ps, h => by
    have ih := shownVKv_le ps h
    refine ⟨?_, by rw [PyData.showable]; exact ih.2⟩
    rw [PyData.shown, wV]
    have := dictText_le ps
    omega
theorem shownVAll_le : ∀ ds : List PyData, okVAll ds = true → piled (PyData.shownAll ds) ≤ wVAll ds ∧ PyData.showableAll ds = true
  | [], _ => ⟨by rw [PyData.shownAll]; exact Nat.le_refl _, rfl⟩
  | d :: ds, h => by
    have h' : (okV d && okVAll ds) = true := by rw [okVAll] at h; exact h
    rw [Bool.and_eq_true] at h'
    have i1 := shownV_le d h'.1
    have i2 := shownVAll_le ds h'.2
    refine ⟨?_, by rw [PyData.showableAll, i1.2, i2.2]; rfl⟩
    rw [PyData.shownAll, wVAll]
    have e2 : piled (d.shown :: PyData.shownAll ds) = d.shown.length + 2 + piled (PyData.shownAll ds) := by unfold piled; rw [List.map_cons, List.sum_cons]
    omega
theorem shownVKv_le : ∀ ps : List (PyData × PyData), okVKv ps = true → piled (PyData.shownKv ps) ≤ wVKv ps ∧ PyData.showableKv ps = true
  | [], _ => ⟨by rw [PyData.shownKv]; exact Nat.le_refl _, rfl⟩
  | (a, b) :: r, h => by
    have h' : (okV a && okV b && okVKv r) = true := by rw [okVKv] at h; exact h
    rw [Bool.and_eq_true, Bool.and_eq_true] at h'
    have i1 := shownV_le a h'.1.1
    have i2 := shownV_le b h'.1.2
    have i3 := shownVKv_le r h'.2
    refine ⟨?_, by rw [PyData.showableKv, i1.2, i2.2, i3.2]; rfl⟩
    rw [PyData.shownKv, wVKv]
    have e2 : ∀ (t : Str) (l : List Str), piled (t :: l) = t.length + 2 + piled l := fun t l => by unfold piled; rw [List.map_cons, List.sum_cons]
    rw [e2, strLen_append, strLen_append]
    have e3 : (((": " : String) : Str)).length = 2 := rfl
    omega
end
/-- how deep -/
def rReprV (K : PySem.W.Frag) : List V → Hp → VK → Prop := fun xs H Q => ∃ (x : V) (d : PyData), xs = [x] ∧ Dv K H x d ∧ okV d = true ∧ d.depth ≤ 40 ∧ wV d ≤ 10000000 ∧ Q (.str d.shown) H
theorem shows_call {P : Program} {w : World} {s : Shared} {a : Addr} {d : PyData} {T idr : String} {A : Around} {E : Value → Shared → Prop} {Q : Value → Shared → Prop} (hg : A.guards = some []) (hu : A.units + (d.depth + 1) < cLine) (S : ShowsBy P w s.heap a d T idr)
    (q : ∀ h' u tk, (∀ b o, s.heap.get? b = some o → h'.get? b = some o) → Q (.str d.shown u) { s with heap := h', toks := tk }) : wpAny (model P w) A (call (.builtin "repr") [.ref a]) Q E s :=
  call_repr_slot (by omega) (S.typeIs s fun _ _ e => e) S.slotRepr (S.call A.in1 E s _ hg (by show A.units + 1 + d.depth < cLine; omega) (fun _ _ e => e) fun h' u tk hk => ⟨_, _, rfl, q h' u tk hk⟩)
theorem call_reprV {X : Cx} (hg : X.A.guards = some []) (hu : X.A.units + 64 < cLine) : CallR X (.builtin "repr") (rReprV X.K) := by
  intro pins s σ H xs us Q I r h
  obtain ⟨x, d, rfl, hd, ok, hn, hw, q⟩ := h
  obtain ⟨u, rfl, ru⟩ := vals1 r
  obtain ⟨hl, hs⟩ := shownV_le d ok
  have hsz : d.shown.length ≤ sizeLine := by rw [sizeLine_eq]; omega
  cases hd with
  | non =>
    cases ru
    exact P.repr_of_none ⟨.str _, H, I.tok _, ⟨_, rfl⟩, q⟩
  | bl b =>
    cases ru
    exact P.repr_of_bool ⟨.str _, H, I.tok _, ⟨_, rfl⟩, q⟩
  | int i =>
    obtain ⟨t, rfl⟩ := ru
    have h' : i.natAbs < 2 ^ 1000 := of_decide_eq_true (show decide _ = true from ok)
    exact P.repr_of_int (log_le h') ⟨.str _, H, I.tok _, ⟨_, rfl⟩, q⟩
  | str z =>
    obtain ⟨t, rfl⟩ := ru
    exact P.repr_of_str ⟨.str _, H, I.tok _, ⟨_, rfl⟩, q⟩ hsz
  | @lst a xs ds hs2 ha =>
    cases ru
    refine shows_call (T := "list") (idr := "list.__repr__") (d := .list ds) hg (by omega) ⟨F.slot_list_repr.toG, F.slot_list_str, F.slot_list_format, fun s2 hk => ?_, fun A E s2 Q2 hg2 hu2 hk0 hQ => ?_⟩ fun h' tu tk hk => ⟨.str _, H, I.kept hk, ⟨_, rfl⟩, q⟩
    · obtain ⟨its, rv, ⟨o, n, ho, hc, _, hd⟩, _⟩ := I.list hs2
      exact ⟨o, hk _ _ ho, hc⟩
    · obtain ⟨its, rv, ⟨o, n, ho, hc, _, hd⟩, _⟩ := I.list hs2
      rw [PyData.shown] at hsz hQ
      rw [PyData.depth] at hu2
      obtain ⟨bs, hb, hk⟩ := DvAll.show I ha rv (by simpa [PyData.showable] using hs) fun t ht => Nat.le_trans (listText_mem_le ht) hsz
      obtain ⟨as, hr⟩ := DvAll.reads I ha rv
      have na : a ∉ bs := not_mem_of_deeper (Reads.list ho hc hd hr) (by rw [PyData.depth]; omega) hb
      cases its with
      | nil =>
        cases hr
        rw [PyData.shownAll, listText_nil] at hQ
        exact call_list_repr_empty ⟨o, hk0 _ _ ho, hc⟩ (hk0 _ _ ho) hd (hQ s2.heap _ _ fun _ _ e => e)
      | cons y l => exact call_list_reprK ho hc hd na (by simpa using hk.length_eq) (fun i z e => hk.item i z (by simpa using e)) hg2 (fun b _ => Clear.nil b) hu2 hk0 hQ hsz
  | @tup a xs ds hs2 ha =>
    cases ru
    refine shows_call (T := "tuple") (idr := "tuple.__repr__") (d := .tuple ds) hg (by omega) ⟨F.slot_tuple_repr, F.slot_tuple_str, F.slot_tuple_format, fun s2 hk => ?_, fun A E s2 Q2 hg2 hu2 hk0 hQ => ?_⟩ fun h' tu tk hk => ⟨.str _, H, I.kept hk, ⟨_, rfl⟩, q⟩
    · obtain ⟨its, rv, ⟨o, ho, hc, n, hd⟩, _⟩ := I.tuple hs2
      exact ⟨o, hk _ _ ho, hc⟩
    · obtain ⟨its, rv, ⟨o, ho, hc, n, hd⟩, _⟩ := I.tuple hs2
      rw [PyData.shown] at hsz hQ
      rw [PyData.depth] at hu2
      obtain ⟨bs, hb, hk⟩ := DvAll.show I ha rv (by simpa [PyData.showable] using hs) fun t ht => Nat.le_trans (tupleText_mem_le ht) hsz
      obtain ⟨as, hr⟩ := DvAll.reads I ha rv
      have na : a ∉ bs := not_mem_of_deeper (Reads.tuple ho hc hd hr) (by rw [PyData.depth]; omega) hb
      exact call_tuple_reprK ho hc hd na hk hg2 (fun b _ => Clear.nil b) hu2 hk0 hQ hsz
  | @dic a kvs ps hs2 he ha =>
    cases ru
    refine shows_call (T := "dict") (idr := "dict.__repr__") (d := .dict ps) hg (by omega) ⟨F.slot_dict_repr, F.slot_dict_str, F.slot_dict_format, fun s2 hk => ?_, fun A E s2 Q2 hg2 hu2 hk0 hQ => ?_⟩ fun h' tu tk hk => ⟨.str _, H, I.kept hk, ⟨_, rfl⟩, q⟩
    · obtain ⟨_, hy, vs, kv, ⟨o, es, ep, ho, ex, hd, _, pr, _⟩⟩ := dk_of I.hok hs2
      exact ⟨o, hk _ _ ho, ex.1⟩
    · obtain ⟨_, hy, vs, kv, ⟨o, es, ep, ho, ex, hd, _, pr, _⟩⟩ := dk_of I.hok hs2
      obtain ⟨⟨as, h1, n1⟩, h2⟩ := pairs_reads (h := s.heap) pr
      obtain ⟨bs, h3⟩ := DvAll.reads I ha (kv_vals kv)
      obtain ⟨sh1, sh2⟩ := PyData.showableKv_split ps (by simpa [PyData.showable] using hs)
      rw [PyData.shown] at hsz hQ
      rw [PyData.depth] at hu2
      have k1 := pairs_show (h := s.heap) pr (by rw [kv_keys kv, he]; exact sh1) (fun t ht => by
        rw [kv_keys kv, he] at ht
        obtain ⟨p, hp, hl⟩ := PyData.shownKv_key_le ps t ht
        exact Nat.le_trans hl (Nat.le_trans (dictText_mem_le hp) hsz))
      rw [kv_keys kv, he] at k1 h1
      have k2 := DvAll.show I ha (kv_vals kv) sh2 (fun t ht => by
        obtain ⟨p, hp, hl⟩ := PyData.shownKv_val_le ps t ht
        exact Nat.le_trans hl (Nat.le_trans (dictText_mem_le hp) hsz))
      rw [← h2] at k2 h3
      obtain ⟨b1, r1, q1⟩ := k1.mono (PyData.depthAll_keys_le ps)
      obtain ⟨b2, r2, q2⟩ := k2.mono (PyData.depthAll_vals_le ps)
      have na : a ∉ b1 ++ b2 := not_mem_of_deeper (Reads.dict ho ex.1 hd h1 h3) (by rw [PyData.depth]; omega) (r1.append r2)
      rw [PyData.shownKv_eq] at hQ hsz
      refine call_dict_reprK ho ex.1 hd hy na (ReprEntriesK.of_two es.toList _ _ (q1.more_le (fun z hz => ?_) (Nat.le_refl _)) (q2.more_le (fun z hz => ?_) (Nat.le_refl _))) hg2 (fun b _ => Clear.nil b) hu2 hk0 hQ hsz
      · exact List.mem_append.mpr (.inl hz)
      · exact List.mem_append.mpr (.inr hz)
end Fld
/-! what a field, a list of fields, a setting is, over data of any kind -/
namespace Fld
open PySem PySem.Spec PyProof.Rows L2
def dBtw : PyData → Int → Int → Bool
  | .int i, a, b => decide (a ≤ i) && decide (i ≤ b)
  | _, _, _ => false
def dTxt : PyData → Int → Int → Bool
  | .str x, a, b => decide (a ≤ (x.length : Int)) && decide ((x.length : Int) ≤ b) && x.cps.toList.all isChar
  | _, _, _ => false
theorem Dv.btw {K : PySem.W.Frag} {H : Hp} {v : V} {d : PyData} (h : Dv K H v d) (a b : Int) : Fld.btw v a b = dBtw d a b := by cases h <;> rfl
theorem Dv.txt {K : PySem.W.Frag} {H : Hp} {v : V} {d : PyData} (h : Dv K H v d) (a b : Int) : Fld.txt v a b = dTxt d a b := by cases h <;> rfl
/-- not too great for any rule -/
def Lim (d : PyData) : Prop := okV d = true ∧ wV d ≤ 10000000
theorem Dv.strLe {K : PySem.W.Frag} {H : Hp} {v : V} {d : PyData} (h : Dv K H v d) (hw : Lim d) : ∀ x, v = .str x → x.length ≤ 100000 := by
  rintro x rfl
  cases h
  have h' : ((x.cps.toList.all fun c => decide (c < 4294967296)) && decide (x.length ≤ 100000)) = true := hw.1
  rw [Bool.and_eq_true, decide_eq_true_eq] at h'
  exact h'.2
def dField : PyData → Bool
  | .tuple [n, v] => dTxt n 1 20 && dTxt v 0 40
  | _ => false
def dFields (most : Nat) : PyData → Bool
  | .tuple ds => decide (ds.length ≤ most) && ds.all dField
  | _ => false
def dSetting : PyData → Bool
  | .tuple [f, r, w] => dFields 12 f && dBtw r 0 120 && dBtw w 0 4
  | _ => false
def dOctets : PyData → Bool
  | .list ds => ds.all fun d => dBtw d 0 255
  | _ => false
def isTup : PyData → Bool
  | .tuple _ => true
  | _ => false
def isLst : PyData → Bool
  | .list _ => true
  | _ => false
def isStr : PyData → Bool
  | .str _ => true
  | _ => false
def isDic : PyData → Bool
  | .dict _ => true
  | _ => false
theorem sub_tup (d : PyData) : subT (tyD d) "tuple" = isTup d := by
  cases d with
  | none => decide
  | bool b => show subT "bool" "tuple" = false; decide
  | int i => show subT "int" "tuple" = false; decide
  | str x => show subT "str" "tuple" = false; decide
  | list l => show subT "list" "tuple" = false; decide
  | tuple l => show subT "tuple" "tuple" = true; decide
  | dict l => show subT "dict" "tuple" = false; decide
theorem sub_lst (d : PyData) : subT (tyD d) "list" = isLst d := by
  cases d with
  | none => decide
  | bool b => show subT "bool" "list" = false; decide
  | int i => show subT "int" "list" = false; decide
  | str x => show subT "str" "list" = false; decide
  | list l => show subT "list" "list" = true; decide
  | tuple l => show subT "tuple" "list" = false; decide
  | dict l => show subT "dict" "list" = false; decide
theorem sub_str (d : PyData) : subT (tyD d) "str" = isStr d := by
  cases d with
  | none => decide
  | bool b => show subT "bool" "str" = false; decide
  | int i => show subT "int" "str" = false; decide
  | str x => show subT "str" "str" = true; decide
  | list l => show subT "list" "str" = false; decide
  | tuple l => show subT "tuple" "str" = false; decide
  | dict l => show subT "dict" "str" = false; decide
theorem sub_dic (d : PyData) : subT (tyD d) "dict" = isDic d := by
  cases d with
  | none => decide
  | bool b => show subT "bool" "dict" = false; decide
  | int i => show subT "int" "dict" = false; decide
  | str x => show subT "str" "dict" = false; decide
  | list l => show subT "list" "dict" = false; decide
  | tuple l => show subT "tuple" "dict" = false; decide
  | dict l => show subT "dict" "dict" = true; decide
theorem Dv.asT {K : PySem.W.Frag} {H : Hp} {v : V} {d : PyData} (h : Dv K H v d) (e : subT (tyD d) "tuple" = true) : ∃ a xs ds, v = .ref a ∧ d = .tuple ds ∧ SqT K H a xs ∧ DvAll K H xs ds := by
  rw [sub_tup] at e
  cases h <;> first | cases e | skip
  rename_i hs ha
  exact ⟨_, _, _, rfl, rfl, hs, ha⟩
theorem Dv.asL {K : PySem.W.Frag} {H : Hp} {v : V} {d : PyData} (h : Dv K H v d) (e : subT (tyD d) "list" = true) : ∃ a xs ds, v = .ref a ∧ d = .list ds ∧ SqL K H a xs ∧ DvAll K H xs ds := by
  rw [sub_lst] at e
  cases h <;> first | cases e | skip
  rename_i hs ha
  exact ⟨_, _, _, rfl, rfl, hs, ha⟩
theorem Dv.asS {K : PySem.W.Frag} {H : Hp} {v : V} {d : PyData} (h : Dv K H v d) (e : subT (tyD d) "str" = true) : ∃ x, v = .str x ∧ d = .str x := by
  rw [sub_str] at e
  cases h <;> first | cases e | skip
  exact ⟨_, rfl, rfl⟩
theorem nb {c : Bool} (e : (!c) = true) : c = false := by cases c <;> first | rfl | cases e
theorem nb' {c : Bool} (e : (!c) = false) : c = true := by cases c <;> first | rfl | cases e
theorem dField_no {d : PyData} (e : subT (tyD d) "tuple" = false) : dField d = false := by
  rw [sub_tup] at e
  cases d <;> first | rfl | cases e
theorem dFields_no {d : PyData} {m : Nat} (e : subT (tyD d) "tuple" = false) : dFields m d = false := by
  rw [sub_tup] at e
  cases d <;> first | rfl | cases e
theorem dSetting_no {d : PyData} (e : subT (tyD d) "tuple" = false) : dSetting d = false := by
  rw [sub_tup] at e
  cases d <;> first | rfl | cases e
theorem dOctets_no {d : PyData} (e : subT (tyD d) "list" = false) : dOctets d = false := by
  rw [sub_lst] at e
  cases d <;> first | rfl | cases e
theorem dTxt_no {d : PyData} {a b : Int} (e : subT (tyD d) "str" = false) : dTxt d a b = false := by
  rw [sub_str] at e
  cases d <;> first | rfl | cases e
/-- a check: True or False, all that stood stands -/
def sp_chk (K : PySem.W.Frag) (f : PyData → Bool) : Sp := fun vs H Q _ => ∃ (v : V) (d : PyData), vs = [v] ∧ Dv K H v d ∧ Lim d ∧ ∀ H', Same H H' → Q (.bl (f d)) H'
def sp_chkM (K : PySem.W.Frag) (f : Nat → PyData → Bool) : Sp := fun vs H Q _ => ∃ (v : V) (d : PyData) (m : Nat), vs = [v, .int (m : Nat)] ∧ Dv K H v d ∧ Lim d ∧ ∀ H', Same H H' → Q (.bl (f m d)) H'
def sp_chkT (K : PySem.W.Frag) : Sp := fun vs H Q _ => ∃ (v : V) (d : PyData) (a b : Int), vs = [v, .int a, .int b] ∧ Dv K H v d ∧ Lim d ∧ ∀ H', Same H H' → Q (.bl (dTxt d a b)) H'
def sp_chkB (K : PySem.W.Frag) : Sp := fun vs H Q _ => ∃ (v : V) (d : PyData) (a b : Int), vs = [v, .int a, .int b] ∧ Dv K H v d ∧ Q (.bl (dBtw d a b)) H
theorem len2 {K : PySem.W.Frag} {H : Hp} {xs : List V} {ds : List PyData} (h : DvAll K H xs ds) (e : xs.length = 2) : ∃ x0 x1 d0 d1, xs = [x0, x1] ∧ ds = [d0, d1] ∧ Dv K H x0 d0 ∧ Dv K H x1 d1 := by
  cases h with
  | nil => cases e
  | cons h0 t =>
    cases t with
    | nil => cases e
    | cons h1 t =>
      cases t with
      | nil => exact ⟨_, _, _, _, rfl, rfl, h0, h1⟩
      | cons _ _ => simp at e
theorem len3 {K : PySem.W.Frag} {H : Hp} {xs : List V} {ds : List PyData} (h : DvAll K H xs ds) (e : xs.length = 3) : ∃ x0 x1 x2 d0 d1 d2, xs = [x0, x1, x2] ∧ ds = [d0, d1, d2] ∧ Dv K H x0 d0 ∧ Dv K H x1 d1 ∧ Dv K H x2 d2 := by
  cases h with
  | nil => cases e
  | cons h0 t =>
    obtain ⟨_, _, _, _, rfl, rfl, h1, h2⟩ := len2 t (by simpa using e)
    exact ⟨_, _, _, _, _, _, rfl, rfl, h0, h1, h2⟩
theorem dField_ne {ds : List PyData} (h : ds.length ≠ 2) : dField (.tuple ds) = false := by
  match ds, h with
  | [], _ => rfl
  | [_], _ => rfl
  | [_, _], h => exact absurd rfl h
  | _ :: _ :: _ :: _, _ => rfl
theorem dSetting_ne {ds : List PyData} (h : ds.length ≠ 3) : dSetting (.tuple ds) = false := by
  match ds, h with
  | [], _ => rfl
  | [_], _ => rfl
  | [_, _], _ => rfl
  | [_, _, _], h => exact absurd rfl h
  | _ :: _ :: _ :: _ :: _, _ => rfl
theorem decI {n m : Nat} : decide (V.int (n : Int) = V.int (m : Int)) = decide (n = m) := by
  rw [decide_eq_decide]
  constructor
  · intro h; injection h with h; omega
  · rintro rfl; rfl
theorem nAt {n m : Nat} (e : decide (V.int (n : Int) = V.int (m : Int)) = true) : n = m := by rw [decI] at e; exact of_decide_eq_true e
theorem nNe {n m : Nat} (e : decide (V.int (n : Int) = V.int (m : Int)) = false) : n ≠ m := by rw [decI] at e; exact of_decide_eq_false e
/-- the weight of an item -/
theorem w_tup {ds : List PyData} {d : PyData} (h : d ∈ ds) (hw : Lim (.tuple ds)) : Lim d := by
  obtain ⟨h1, h2⟩ := hw
  rw [okV] at h1
  rw [wV] at h2
  have := wVAll_mem h
  exact ⟨okVAll_mem h1 h, by omega⟩
theorem w_lst {ds : List PyData} {d : PyData} (h : d ∈ ds) (hw : Lim (.list ds)) : Lim d := by
  obtain ⟨h1, h2⟩ := hw
  rw [okV] at h1
  rw [wV] at h2
  have := wVAll_mem h
  exact ⟨okVAll_mem h1 h, by omega⟩
theorem w_tupLen {ds : List PyData} (hw : Lim (.tuple ds)) : ds.length ≤ 10000000 := by
  have h2 := hw.2
  rw [wV] at h2; have := wVAll_len ds; omega
theorem w_lstLen {ds : List PyData} (hw : Lim (.list ds)) : ds.length ≤ 10000000 := by
  have h2 := hw.2
  rw [wV] at h2; have := wVAll_len ds; omega
/-- a list of truths, one for each item -/
theorem tests_of {K : PySem.W.Frag} {H : Hp} {xs : List V} {ds : List PyData} (f : PyData → Bool) (h : DvAll K H xs ds) : (List.range xs.length).map (fun i => V.bl (f (ds.getD i .none))) = (ds.map f).map V.bl := by
  rw [h.len, List.map_map]
  exact range_map ds (fun c => V.bl (f c)) .none
theorem all_id {ds : List PyData} (f : PyData → Bool) : (ds.map f).all id = ds.all f := by rw [List.all_map]; rfl
theorem inB {b : Bool} (bs : List Bool) : inV (.bl false) (bs.map V.bl) = !bs.all id := by
  unfold inV
  rw [List.any_map]
  induction bs with
  | nil => rfl
  | cons c r ih =>
    rw [List.any_cons, List.all_cons, ih]
    cases c <;> rfl
theorem flatB (bs : List Bool) : (bs.map V.bl).all flatV = true := by
  rw [List.all_map]; exact List.all_eq_true.mpr fun _ _ => rfl
end Fld
/-! Errors of the program: a base of its own over ValueError, whose __init__ is called by name out of the __init__ of its heirs. -/
namespace Fld
open PySem PySem.Spec PyProof.Rows L2
section
variable {X : Cx} {e : Expr} {es : List Expr} {ta : TA} {x : Str} {FE : Addr} {mc : Value} {p1 p2 pos : Pos}
/-- what the written part says of the base -/
structure BaseC (K : PySem.W.Frag) (mg : Str → Option Value) (x : Str) (FE : Addr) (mc : Value) : Prop where
  g : mg x = some (.ref FE)
  rd : ClX.CRead K FE mc
  ini : PySem.W.findCls K (.ref FE) mc "__init__" = some (.val (.builtin "ValueError.__init__"))
theorem pe_feinit {pl : Sem Bool} (B : BaseC X.K X.mg x FE mc) (hg : Gl X x) (ha : PA X (e :: es) ta) (hdb : (x == ("__debug__" : Str)) = false := by decide)
    (hc : eval (.Call (.Attribute (.Name x p1) "__init__" p2) (e :: es) [] pos) X.env = (do
      let ov ← eval (.Name x p1) X.env
      standAt p2.atName
      let (f, first) ← holding [ov] (getMethod ov "__init__" pl)
      callWith pos f first (backTo pos (starEach (e :: es) X.env)) (backToKw pos (keywordEach [] X.env))) := by rfl)
    (he : starEach (e :: es) X.env = (false, eval e X.env) :: starEach es X.env := by rfl) (hpl : (backTo pos (starEach es X.env)).any (·.1) = false := by rfl) :
    PE X (.Call (.Attribute (.Name x p1) "__init__" p2) (e :: es) [] pos) (tVeI X.K ta) := by
  refine ⟨?_⟩
  intro pins s σ H Q I h
  refine PySem.W.methodCall_KW (ld_glob I hg B.g ?_ hdb) hc
  refine PySem.W.method_cls I.kIn B.rd.ga (PySem.W.cls_value I.kIn B.rd.rd B.ini rfl ?_)
  show wpAny _ _ (callWith pos (Value.builtin "ValueError.__init__") [] (backTo pos (starEach (e :: es) X.env)) []) _ _ _
  refine PyProof.Rows.callWith_method1 (thn (ha.run pos pins _ σ H _ (I.tok _) h) ?_) he hpl
  rintro us s1 ⟨vs, H1, I1, r1, a, C, ws, rfl, hl, TC, ea, q⟩
  cases r1 with
  | cons ra rw' =>
    cases (show _ = Value.ref a from ra)
    exact oinit_ok TC I1 ea (by rw [← Paired.length rw', sizeLine_eq]; omega) fun s' J => ⟨.non, H1, J, rfl, q⟩
end
/-- __init__ of an heir: its one argument is kept as the attribute f -/
def sp_err (C : Addr) (f : Str) : Sp := fun vs H Q _ => ∃ (a : Addr) (k : Int), vs = [.ref a, .int k] ∧ k.natAbs < 2 ^ 1000 ∧ H a = some (exo a C none) ∧
  ∀ dx, H dx = none → dx ≠ a → Q .non (upd (upd H dx (exd dx [(f, .int k)])) a (exo a C (some dx)))
/-- what the written part says of an heir at C, its __init__ at fI -/
structure ErrC (K : PySem.W.Frag) (mg : Str → Option Value) (x f : Str) (C fI : Addr) : Prop where
  ox : OexC K C
  g : mg x = some (.ref C)
  iC : PySem.W.findIn K (.ref C) "__init__" = some (some (.ref fI))
  tI : PySem.W.typeIn K (.ref fI) = some (.type "function")
  no : PySem.W.findIn K (.ref C) f = some none
/-- raise C(e): what its reading asks behind the argument -/
def tRaiseE (C : Addr) (f : Str) (W : WX) (ta : TA) : TS := fun _ σ H => tMkO C (sp_err C f) [] ta σ H fun cls d H' => W cls d σ H'
theorem ps_raiseE {X : Cx} {CX : CXT} {x f : Str} {C fI : Addr} {k : Nat} {fd : FuncData} {e : Expr} {ta : TA} {W : WX} {p pos pos2 : Pos} (hcalm : X.calm = true) (T : ErrC X.K X.mg x f C fI) (F1 : FnOk X.prog X.w X.K X.mg X.base CX k fI fd ["self", f] (sp_err C f)) (hr : Room (k + 1) X.A) (hb : Binds X.K fd ["self", f] [])
    (hx : Passes CX X (fun _ _ _ => False)) (tk : Takes X W) (hg : Gl X x) (ha : PA X [e] ta)
    (hdb : (x == ("__debug__" : Str)) = false := by decide) (he : starEach (e :: []) X.env = (false, eval e X.env) :: starEach [] X.env := by rfl) (hpl : (backTo pos (starEach [] X.env)).any (·.1) = false := by rfl) :
    PS X (.Raise (some (.Call (.Name x p) [e] [] pos)) none pos2) (tRaiseE C f W ta) :=
  ps_raise (pos := pos2) hcalm tk (pmk_oex (pos := pos) (p := p) T.ox T.iC T.tI F1 hr hb .nil hx hg T.g ha hdb he hpl)
/-- the error's own dict, new, holds the number; all that stood stands -/
theorem err_go {C : Addr} {f : Str} {k : Int} {H1 : Hp} {Q : Value → Option Addr → Hp → Prop} (hk : k.natAbs < 2 ^ 1000) (q : ∀ (d : Addr) H', Same H1 H' → H1 d = none → H' d = some (.xd [(f, .int k)]) → Q (.ref C) (some d) H') :
    ([V.int k] : List V).length ≤ 1000 ∧ ∀ a, H1 a = none → sp_err C f (.ref a :: ([.int k] ++ [])) (upd H1 a (exo a C none)) (fun v H2 => v = .non ∧ ∃ (d : Addr) (fs : List (Str × V)), H2 a = some (exo a C (some d)) ∧ H2 d = some (exd d fs) ∧ H1 d = none ∧ Q (.ref C) (some d) (upd (del H2 a) d (.xd fs))) (fun _ _ _ => False) := by
  refine ⟨by show 1 ≤ 1000; decide, fun a hna => ⟨a, k, rfl, hk, upd_same, fun dx hdx hda => ⟨rfl, dx, [(f, .int k)], upd_same, ?_, ?_, ?_⟩⟩⟩
  · rw [upd_ne hda, upd_same]
  · rw [upd_ne hda] at hdx; exact hdx
  · have hdx' : H1 dx = none := by rw [upd_ne hda] at hdx; exact hdx
    refine q dx _ (fun b o hb => ?_) hdx' upd_same
    have n1 : b ≠ dx := ne_of_none hb hdx'
    have n2 : b ≠ a := ne_of_none hb hna
    rw [upd_ne n1, del_ne n2, upd_ne n2, upd_ne n1, upd_ne n2]
    exact hb
/-- a plain heir: no __init__ of its own -/
structure PlainC (K : PySem.W.Frag) (mg : Str → Option Value) (x : Str) (C : Addr) (bm : List Value) : Prop where
  g : mg x = some (.ref C)
  x_ : PySem.W.excIn K C bm "ValueError.__new__" = true
  k_ : PySem.W.keepIn K (.ref C) = true
  b_ : PySem.W.subIn K (.ref C) (.type "BaseException") = some true
  t_ : PySem.W.typeIn K (.ref C) = some (.type "type")
/-- what an except clause asks of a base of the program's own -/
structure RootC (K : PySem.W.Frag) (C : Addr) : Prop where
  b_ : PySem.W.subIn K (.ref C) (.type "BaseException") = some true
  t_ : PySem.W.typeIn K (.ref C) = some (.type "type")
  d_ : PySem.W.hasDictIn K C = true
structure HeirC (K : PySem.W.Frag) (C FE : Addr) : Prop where
  b_ : PySem.W.subIn K (.ref C) (.type "BaseException") = some true
  t_ : PySem.W.typeIn K (.ref C) = some (.type "type")
  u_ : PySem.W.subIn K (.ref C) (.ref FE) = some true
theorem RootC.exm {K : PySem.W.Frag} {C FE : Addr} (r : RootC K FE) (h : HeirC K C FE) : PySem.W.exmOne K (.ref C) (.ref FE) = some true := PySem.W.exm_ref r.b_ r.d_ r.t_ h.u_
/-- text += text on a local -/
def ipT : TIp := fun x y H Q => ∃ i j, x = .str i ∧ y = .str j ∧ i.length + j.length ≤ sizeLine ∧ Q (.str (i ++ j)) H
theorem ip_addT {X : Cx} : PIp X .Add ipT := fun pins s σ H x y u v Q I rx ry h => iop_add_str pins s σ H x y u v Q I rx ry h
end Fld
/-! The reader of octets: its state, what its calls return or raise, by a mirror over the list of octets. -/
namespace Fld
open PySem PySem.Spec PyProof.Rows L2
/-- the reader at r, over the octets os at a, stands at place k -/
structure Rd (K : PySem.W.Frag) (C : Addr) (H : Hp) (r a : Addr) (os : List Int) (k : Nat) : Prop where
  ex : ∃ dx, H r = some (.ins C dx [("octets", .ref a), ("place", .int (k : Nat))])
  sq : SqL K H a (os.map V.int)
  ne : a ≠ r
  lt : ∀ o ∈ os, 0 ≤ o ∧ o < 256
  len : os.length ≤ 1000000
  le : k ≤ os.length
theorem Rd.keep {K : PySem.W.Frag} {C r a : Addr} {H H' : Hp} {os : List Int} {k : Nat} (h : Rd K C H r a os k) (s : Same H H') : Rd K C H' r a os k := by
  obtain ⟨dx, e⟩ := h.ex
  exact ⟨⟨dx, s _ _ e⟩, s.seq h.sq, h.ne, h.lt, h.len, h.le⟩
theorem Rd.get {K : PySem.W.Frag} {C r a : Addr} {H : Hp} {os : List Int} {k : Nat} (h : Rd K C H r a os k) {o : Int} (e : os[k]? = some o) : 0 ≤ o ∧ o < 256 := h.lt o (List.mem_of_getElem? e)
theorem Rd.end_ {K : PySem.W.Frag} {C r a : Addr} {H : Hp} {os : List Int} {k : Nat} (h : Rd K C H r a os k) (e : os[k]? = none) : k = os.length := by
  have := List.getElem?_eq_none_iff.mp e
  have := h.le
  omega
/-- an error with the place e -/
def RdErr (N r : Addr) (H : Hp) (E : XK) (e : Nat) : Prop := ∀ (d : Addr) H', But r H H' → H' d = some (.xd [("place", .int (e : Nat))]) → E (.ref N) (some d) H'
theorem RdErr.pre {N r : Addr} {H H1 : Hp} {E : XK} {e : Nat} (b : But r H H1) (h : RdErr N r H E e) : RdErr N r H1 E e := fun d H' b2 hd => h d H' (b.trans b2) hd
/-- a call: a value, the place moved; or the error -/
def RdRes {α : Type} (K : PySem.W.Frag) (C N r a : Addr) (os : List Int) (H : Hp) (Q : VK) (E : XK) (R : α → V → Hp → Prop) : Except Nat (α × Nat) → Prop
  | .ok (x, k') => ∀ v H', But r H H' → Rd K C H' r a os k' → R x v H' → Q v H'
  | .error e => RdErr N r H E e
theorem lenL {K : PySem.W.Frag} {H : Hp} {a : Addr} {xs : List V} (h : SqL K H a xs) : LenV K (.ref a) H xs.length := .inl ⟨xs, h, rfl⟩
theorem small_int {K : PySem.W.Frag} {C r a : Addr} {H : Hp} {os : List Int} {k : Nat} (h : Rd K C H r a os k) : ((k : Nat) : Int).natAbs < 2 ^ 1000 := by
  have h1 := h.le
  have h2 := h.len
  have h3 : (1000001 : Nat) < 2 ^ 1000 := by decide +kernel
  rw [Int.natAbs_natCast]
  omega
/-! ### mirrors -/
def takeRest (most : Int) : List Int → Nat → Int → Int → Except Nat (Int × Nat)
  | [], k, _, _ => .error k
  | o :: l, k, r, w =>
    if 128 ≤ o then (if r + (o - 128) * w + w * 128 ≤ most then takeRest most l (k + 1) (r + (o - 128) * w) (w * 128) else .error k)
    else if r + o * w ≤ most ∧ (0 < o ∨ w = 1) then .ok (r + o * w, k + 1) else .error k
def takeNum (os : List Int) (b m : Nat) (least most : Int) (k : Nat) : Except Nat (Int × Nat) :=
  match os[k]? with
  | none => .error k
  | some o => if least ≤ o - m ∧ o - m ≤ min ((2 ^ b - 1 : Nat) : Int) most then
      (if o - m < ((2 ^ b - 1 : Nat) : Int) then .ok (o - m, k + 1)
       else (takeRest (most - ((2 ^ b - 1 : Nat) : Int)) (os.drop (k + 1)) (k + 1) 0 1).map fun z => (((2 ^ b - 1 : Nat) : Int) + z.1, z.2))
    else .error k
def takeChars : Nat → List Int → Nat → Except Nat (List Nat × Nat)
  | 0, _, k => .ok ([], k)
  | _ + 1, [], k => .error k
  | n + 1, o :: l, k => if isChar o.toNat then (takeChars n l (k + 1)).map fun z => (o.toNat :: z.1, z.2) else .error k
def takeStr (os : List Int) (b m : Nat) (least most : Int) (k : Nat) : Except Nat (Str × Nat) :=
  match takeNum os b m least most k with
  | .error e => .error e
  | .ok (n, k1) => (takeChars n.toNat (os.drop k1) k1).map fun z => (⟨z.1.toArray⟩, z.2)
theorem takeRest_bound (most : Int) : ∀ (l : List Int) (k : Nat) (r w : Int) (n : Int) (k1 : Nat), 0 ≤ r → 0 ≤ w → (∀ o ∈ l, 0 ≤ o) → takeRest most l k r w = .ok (n, k1) → 0 ≤ n ∧ n ≤ most
  | [], k, r, w, n, k1, _, _, _, h => by rw [takeRest] at h; cases h
  | o :: l, k, r, w, n, k1, hr, hw, ho, h => by
    have ho1 := ho o (List.mem_cons_self ..)
    have hm := Int.mul_nonneg ho1 hw
    rw [takeRest] at h
    by_cases h1 : 128 ≤ o
    · rw [if_pos h1] at h
      by_cases h2 : r + (o - 128) * w + w * 128 ≤ most
      · rw [if_pos h2] at h
        have := Int.mul_nonneg (show 0 ≤ o - 128 by omega) hw
        exact takeRest_bound most l _ _ _ n k1 (by omega) (by omega) (fun x hx => ho x (List.mem_cons_of_mem _ hx)) h
      · rw [if_neg h2] at h; cases h
    · rw [if_neg h1] at h
      by_cases h2 : r + o * w ≤ most ∧ (0 < o ∨ w = 1)
      · rw [if_pos h2] at h
        cases h
        exact ⟨by omega, h2.1⟩
      · rw [if_neg h2] at h; cases h
theorem takeNum_bound (os : List Int) (b m : Nat) (least most : Int) (k : Nat) (hos : ∀ o ∈ os, 0 ≤ o) : ∀ n k1, takeNum os b m least most k = .ok (n, k1) → least ≤ n ∧ n ≤ most := by
  intro n k1 h
  rw [takeNum] at h
  cases ho : os[k]? with
  | none => rw [ho] at h; cases h
  | some o =>
    rw [ho] at h
    dsimp only at h
    have hp0 := pow_pos2 b
    by_cases h1 : least ≤ o - (m : Int) ∧ o - (m : Int) ≤ min ((2 ^ b - 1 : Nat) : Int) most
    · rw [if_pos h1] at h
      by_cases h2 : o - (m : Int) < ((2 ^ b - 1 : Nat) : Int)
      · rw [if_pos h2] at h
        cases h
        omega
      · rw [if_neg h2] at h
        cases ht : takeRest (most - ((2 ^ b - 1 : Nat) : Int)) (os.drop (k + 1)) (k + 1) 0 1 with
        | error z => rw [ht] at h; cases h
        | ok z =>
          rw [ht] at h
          cases h
          have := takeRest_bound _ _ _ _ _ z.1 z.2 (by decide) (by decide) (fun x hx => hos x (List.mem_of_mem_drop hx)) ht
          omega
    · rw [if_neg h1] at h; cases h
def rInt : Int → V → Hp → Prop := fun z v _ => v = .int z
def rStr : Str → V → Hp → Prop := fun x v _ => v = .str x
/-! ### what is promised -/
def sp_Reader_init (K : PySem.W.Frag) : Sp := fun vs H Q _ => ∃ (r a C dx : Addr), vs = [.ref r, .ref a] ∧ H r = some (.ins C dx []) ∧ Cls K C ∧ NoAttr K C "octets" ∧ NoAttr K C "place" ∧
  ∀ H', (∀ b, b ≠ r → H' b = H b) → H' r = some (.ins C dx [("octets", .ref a), ("place", .int 0)]) → Q .non H'
def sp_Reader_at_end (K : PySem.W.Frag) (C : Addr) : Sp := fun vs H Q _ => ∃ (r a : Addr) (os : List Int) (k : Nat), vs = [.ref r] ∧ Rd K C H r a os k ∧ Q (.bl (decide (k = os.length))) H
def sp_Reader_look (K : PySem.W.Frag) (C N : Addr) : Sp := fun vs H Q E => ∃ (r a : Addr) (os : List Int) (k : Nat), vs = [.ref r] ∧ Rd K C H r a os k ∧ (os[k]? = none → RdErr N r H E k) ∧ ∀ o, os[k]? = some o → Q (.int o) H
def sp_Reader_accept (K : PySem.W.Frag) (C N : Addr) : Sp := fun vs H Q E => ∃ (r a : Addr) (os : List Int) (k : Nat) (b : Bool), vs = [.ref r, .bl b] ∧ Rd K C H r a os k ∧ k < os.length ∧ (b = false → RdErr N r H E k) ∧
  (b = true → ∀ H', But r H H' → Rd K C H' r a os (k + 1) → Q .non H')
theorem acc_of {K : PySem.W.Frag} {C N r a : Addr} {os : List Int} {k : Nat} {H : Hp} {Q' : VK} {E : XK} {bb : Bool} {p : Prop} [Decidable p] (R : Rd K C H r a os k) (hlt : k < os.length) (hb : bb = decide p) (h1 : ¬ p → RdErr N r H E k)
    (h2 : p → ∀ H1, But r H H1 → Rd K C H1 r a os (k + 1) → Q' .non H1) : sp_Reader_accept K C N [.ref r, .bl bb] H Q' E :=
  ⟨r, a, os, k, bb, rfl, R, hlt, fun e => h1 (of_decide_eq_false (hb.symm.trans e)), fun e => h2 (of_decide_eq_true (hb.symm.trans e))⟩
theorem RdRes.pre {α : Type} {K : PySem.W.Frag} {C N r a : Addr} {os : List Int} {H H1 : Hp} {Q : VK} {E : XK} {R : α → V → Hp → Prop} {x : Except Nat (α × Nat)} (b : But r H H1) (h : RdRes K C N r a os H Q E R x) : RdRes K C N r a os H1 Q E R x := by
  cases x with
  | error e => exact RdErr.pre b h
  | ok z => exact fun v H' b2 R2 hv => h v H' (b.trans b2) R2 hv
def sp_Reader_finish (K : PySem.W.Frag) (C N : Addr) : Sp := fun vs H Q E => ∃ (r a : Addr) (os : List Int) (k : Nat), vs = [.ref r] ∧ Rd K C H r a os k ∧ (k ≠ os.length → RdErr N r H E k) ∧ (k = os.length → Q .non H)
def sp_Reader_take_rest (K : PySem.W.Frag) (C N : Addr) : Sp := fun vs H Q E => ∃ (r a : Addr) (os : List Int) (k : Nat) (most : Int), vs = [.ref r, .int most] ∧ Rd K C H r a os k ∧ most ≤ 1000000 ∧ RdRes K C N r a os H Q E rInt (takeRest most (os.drop k) k 0 1)
def sp_Reader_take_number (K : PySem.W.Frag) (C N : Addr) : Sp := fun vs H Q E => ∃ (r a : Addr) (os : List Int) (k b m : Nat) (least most : Int), vs = [.ref r, .int (b : Nat), .int (m : Nat), .int least, .int most] ∧ Rd K C H r a os k ∧ b ≤ 8 ∧ most ≤ 1000000 ∧
  RdRes K C N r a os H Q E rInt (takeNum os b m least most k)
def sp_Reader_take_string (K : PySem.W.Frag) (C N : Addr) : Sp := fun vs H Q E => ∃ (r a : Addr) (os : List Int) (k b m : Nat) (least most : Int), vs = [.ref r, .int (b : Nat), .int (m : Nat), .int least, .int most] ∧ Rd K C H r a os k ∧ b ≤ 8 ∧ 0 ≤ least ∧ most ≤ 10000 ∧
  RdRes K C N r a os H Q E rStr (takeStr os b m least most k)
def sp_Reader_take_name (K : PySem.W.Frag) (C N : Addr) : Sp := fun vs H Q E => ∃ (r a : Addr) (os : List Int) (k b m : Nat), vs = [.ref r, .int (b : Nat), .int (m : Nat)] ∧ Rd K C H r a os k ∧ b ≤ 8 ∧ RdRes K C N r a os H Q E rStr (takeStr os b m 1 20 k)
def sp_Reader_take_value (K : PySem.W.Frag) (C N : Addr) : Sp := fun vs H Q E => ∃ (r a : Addr) (os : List Int) (k : Nat), vs = [.ref r] ∧ Rd K C H r a os k ∧ RdRes K C N r a os H Q E rStr (takeStr os 7 0 0 40 k)
end Fld
/-! Instructions and answers: their values, their octets, what is read of octets. -/
namespace Fld
open PySem PySem.Spec PyProof.Rows L2
def sp_is_stream (K : PySem.W.Frag) : Sp := fun vs H Q _ => ∃ (v : V) (t : String), vs = [v] ∧ Kind K H v t ∧ Q (.bl (btw v 0 20)) H
def sp_is_name (K : PySem.W.Frag) : Sp := fun vs H Q _ => ∃ (v : V) (t : String), vs = [v] ∧ Kind K H v t ∧ (∀ x, v = .str x → x.length ≤ 100000) ∧ ∀ H', Same H H' → Q (.bl (txt v 1 20)) H'
/-- a list of any values of a kind, or a value of another kind: what comes for each -/
def AnyL (K : PySem.W.Frag) (H : Hp) (v : V) (Y : List V → Prop) (N : Prop) : Prop :=
  (∃ a xs, v = .ref a ∧ SqL K H a xs ∧ xs.length ≤ 1000000 ∧ (∀ x ∈ xs, ∃ t, Kind K H x t) ∧ Y xs) ∨ ∃ t, Kind K H v t ∧ (t == "list") = false ∧ N
/-- .. the list one of the heap -/
def AnyH (K : PySem.W.Frag) (H : Hp) (v : V) (Y : List V → Prop) (N : Prop) : Prop :=
  (∃ a xs, v = .ref a ∧ H a = some (.lst xs) ∧ xs.length ≤ 1000000 ∧ (∀ x ∈ xs, ∃ t, Kind K H x t) ∧ Y xs) ∨ ∃ t, Kind K H v t ∧ (t == "list") = false ∧ N
def octV (xs : List V) : Bool := xs.all fun x => btw x 0 255
def sp_are_octets (K : PySem.W.Frag) : Sp := fun vs H Q _ => ∃ v, vs = [v] ∧ AnyL K H v (fun xs => ∀ H', Same H H' → Q (.bl (octV xs)) H') (∀ H', Same H H' → Q (.bl false) H')
def sp_check_octets (K : PySem.W.Frag) (N : Addr) : Sp := fun vs H Q E => ∃ v, vs = [v] ∧ AnyL K H v (fun xs => ∀ H', Same H H' → if octV xs = true then Q .non H' else E (.ref N) none H') (∀ H', Same H H' → E (.ref N) none H')
def strOct (x : Str) (b m : Nat) : List Int := numOct x.length b m ++ x.cps.toList.map fun (c : Nat) => (c : Int)
def sp_value_octets : Sp := fun vs H Q _ => ∃ (x : Str), vs = [.str x] ∧ txt (.str x) 0 40 = true ∧ RetInts (strOct x 7 0) H Q
inductive Ins where
  | again (n : Nat) | limit (n : Nat) | fixed (n : Nat) (x : Str) | entry (n : Nat) (x : Str) | new (y x : Str)
def Ins.vs : Ins → List V
  | .again n => [.str "again", .int n]
  | .limit n => [.str "limit", .int n]
  | .fixed n x => [.str "fixed", .int n, .str x]
  | .entry n x => [.str "entry", .int n, .str x]
  | .new y x => [.str "new", .str y, .str x]
def Ins.Ok : Ins → Prop
  | .again n => n ≤ 9999
  | .limit n => n ≤ 9999
  | .fixed n x => n ≤ 9999 ∧ txt (.str x) 0 40 = true
  | .entry n x => n ≤ 9999 ∧ txt (.str x) 0 40 = true
  | .new y x => txt (.str y) 1 20 = true ∧ txt (.str x) 0 40 = true
def Ins.oct : Ins → List Int
  | .again n => numOct n 5 0
  | .limit n => numOct n 5 32
  | .fixed n x => numOct n 6 192 ++ strOct x 7 0
  | .entry n x => numOct n 6 128 ++ strOct x 7 0
  | .new y x => strOct y 5 64 ++ strOct x 7 0
/-- the value v is the instruction i -/
def InsV (K : PySem.W.Frag) (H : Hp) (v : V) (i : Ins) : Prop := ∃ a, v = .ref a ∧ SqT K H a i.vs
inductive Ans where
  | done (n : Nat) | cancelled (n : Nat) | received (n : Nat)
def Ans.vs : Ans → List V
  | .done n => [.str "done", .int n]
  | .cancelled n => [.str "cancelled", .int n]
  | .received n => [.str "received", .int n]
def Ans.Ok : Ans → Prop
  | .done n => n ≤ 20
  | .cancelled n => n ≤ 20
  | .received n => 1 ≤ n ∧ n ≤ 9999
def Ans.oct : Ans → List Int
  | .done n => numOct n 7 128
  | .cancelled n => numOct n 6 64
  | .received n => numOct n 6 0
def AnsV (K : PySem.W.Frag) (H : Hp) (v : V) (i : Ans) : Prop := ∃ a, v = .ref a ∧ SqT K H a i.vs
/-! ### reading -/
def takeSrc (os : List Int) (k : Nat) : Except Nat ((Str ⊕ Bool × Nat) × Nat) :=
  match os[k]? with
  | none => .error k
  | some o => if 192 ≤ o then (takeNum os 6 192 0 9999 k).map fun z => (.inr (true, z.1.toNat), z.2)
    else if 128 ≤ o then (takeNum os 6 128 0 9999 k).map fun z => (.inr (false, z.1.toNat), z.2)
    else (takeStr os 5 64 1 20 k).map fun z => (.inl z.1, z.2)
def srcIns (x : Str) : Str ⊕ Bool × Nat → Ins
  | .inl y => .new y x
  | .inr (true, n) => .fixed n x
  | .inr (false, n) => .entry n x
def takeIns (os : List Int) (k : Nat) : Except Nat (Ins × Nat) :=
  match os[k]? with
  | none => .error k
  | some o => if o < 32 then (takeNum os 5 0 0 9999 k).map fun z => (.again z.1.toNat, z.2)
    else if o < 64 then (takeNum os 5 32 0 9999 k).map fun z => (.limit z.1.toNat, z.2)
    else match takeSrc os k with
      | .error e => .error e
      | .ok (s, k1) => (takeStr os 7 0 0 40 k1).map fun z => (srcIns z.1 s, z.2)
def takeAns (os : List Int) (k : Nat) : Except Nat (Ans × Nat) :=
  match os[k]? with
  | none => .error k
  | some o => if 128 ≤ o then (takeNum os 7 128 0 20 k).map fun z => (.done z.1.toNat, z.2)
    else if 64 ≤ o then (takeNum os 6 64 0 20 k).map fun z => (.cancelled z.1.toNat, z.2)
    else (takeNum os 6 0 1 9999 k).map fun z => (.received z.1.toNat, z.2)
/-- read to the end -/
def whole {α : Type} (os : List Int) (f : List Int → Nat → Except Nat (α × Nat)) : Except Nat α :=
  match f os 0 with
  | .error e => .error e
  | .ok (x, k) => if k = os.length then .ok x else .error k
def srcVs : Str ⊕ Bool × Nat → List V
  | .inl y => [.str "new", .str y]
  | .inr (true, n) => [.str "fixed", .int n]
  | .inr (false, n) => [.str "entry", .int n]
def rSrc (K : PySem.W.Frag) : Str ⊕ Bool × Nat → V → Hp → Prop := fun s v H => ∃ a, v = .ref a ∧ SqT K H a (srcVs s)
def rIns (K : PySem.W.Frag) : Ins → V → Hp → Prop := fun i v H => InsV K H v i
def rAns (K : PySem.W.Frag) : Ans → V → Hp → Prop := fun i v H => AnsV K H v i
def sp_take (K : PySem.W.Frag) (C N : Addr) {α : Type} (f : List Int → Nat → Except Nat (α × Nat)) (R : α → V → Hp → Prop) : Sp := fun vs H Q E => ∃ (r a : Addr) (os : List Int) (k : Nat), vs = [.ref r] ∧ Rd K C H r a os k ∧ RdRes K C N r a os H Q E R (f os k)
def RdEnd {α : Type} (N : Addr) (H : Hp) (Q : VK) (E : XK) (R : α → V → Hp → Prop) : Except Nat α → Prop
  | .ok x => ∀ v H', Same H H' → R x v H' → Q v H'
  | .error e => ∀ (d : Addr) H', Same H H' → H' d = some (.xd [("place", .int (e : Nat))]) → E (.ref N) (some d) H'
def sp_read (K : PySem.W.Frag) (N M : Addr) {α : Type} (f : List Int → Nat → Except Nat (α × Nat)) (R : α → V → Hp → Prop) : Sp := fun vs H Q E => ∃ v, vs = [v] ∧ AnyH K H v
  (fun xs => if octV xs = true then ∃ os : List Int, xs = os.map V.int ∧ RdEnd N H Q E R (whole os f)
   else ∀ H', Same H H' → E (.ref M) none H') (∀ H', Same H H' → E (.ref M) none H')
def sp_is_ins (K : PySem.W.Frag) : Sp := fun vs H Q _ => ∃ (v : V) (i : Ins), vs = [v] ∧ InsV K H v i ∧ i.Ok ∧ ∀ H', Same H H' → Q (.bl true) H'
def sp_write_ins (K : PySem.W.Frag) : Sp := fun vs H Q _ => ∃ (v : V) (i : Ins), vs = [v] ∧ InsV K H v i ∧ i.Ok ∧ RetInts i.oct H Q
def sp_law_ins (K : PySem.W.Frag) : Sp := sp_write_ins K
def sp_is_ans (K : PySem.W.Frag) : Sp := fun vs H Q _ => ∃ (v : V) (i : Ans), vs = [v] ∧ AnsV K H v i ∧ i.Ok ∧ ∀ H', Same H H' → Q (.bl true) H'
def sp_write_ans (K : PySem.W.Frag) : Sp := fun vs H Q _ => ∃ (v : V) (i : Ans), vs = [v] ∧ AnsV K H v i ∧ i.Ok ∧ RetInts i.oct H Q
theorem txt_len20 {x : Str} (h : txt (.str x) 1 20 = true) : 1 ≤ x.length ∧ x.length ≤ 20 := by
  have h' : (decide ((1 : Int) ≤ x.length) && decide ((x.length : Int) ≤ 20) && x.cps.toList.all isChar) = true := h
  rw [Bool.and_eq_true, Bool.and_eq_true] at h'
  have h1 := of_decide_eq_true h'.1.1
  have h2 := of_decide_eq_true h'.1.2
  omega
theorem txt_20 {x : Str} (h : txt (.str x) 1 20 = true) : txt (.str x) 0 40 = true := by
  have := txt_len20 h
  exact txt_of (by omega) (by omega) (txt_all h)
def sp_source_octets : Sp := fun vs H Q _ => ∃ (c : Str) (v : V) (os : List Int), vs = [.str c, v] ∧
  ((∃ n : Nat, c = "fixed" ∧ v = .int n ∧ n ≤ 9999 ∧ os = numOct n 6 192) ∨ (∃ n : Nat, c = "entry" ∧ v = .int n ∧ n ≤ 9999 ∧ os = numOct n 6 128) ∨ ∃ y : Str, c = "new" ∧ v = .str y ∧ txt (.str y) 1 20 = true ∧ os = strOct y 5 64) ∧ RetInts os H Q
theorem RetInts.pre {ns : List Int} {H H1 : Hp} {Q : VK} (s : Same H H1) (h : RetInts ns H Q) : RetInts ns H1 Q := fun p H' hp s2 e => h p H' (s.free hp) (s.trans s2) e
theorem cat_go {a b : List Int} {H H3 : Hp} {Q : VK} {p1 p2 : Addr} (q : RetInts (a ++ b) H Q) (s : Same H H3) (g1 : H3 p1 = some (.lst (a.map V.int))) (g2 : H3 p2 = some (.lst (b.map V.int))) (hl : a.length + b.length ≤ 1000000) : rCat (.ref p1) (.ref p2) H3 Q := by
  refine ⟨p1, p2, _, _, rfl, rfl, g1, g2, by rw [List.length_map, List.length_map, sizeLine_eq]; omega, fun r hr => ?_⟩
  refine q r _ (s.free hr) (s.put (s.free hr)) ?_
  rw [upd_same, List.map_append]
theorem mark0 {b : Nat} (h1 : 1 ≤ b) (h8 : b ≤ 8) : MarkOk b 0 := by
  refine ⟨h1, h8, by decide, ?_⟩
  have : b = 1 ∨ b = 2 ∨ b = 3 ∨ b = 4 ∨ b = 5 ∨ b = 6 ∨ b = 7 ∨ b = 8 := by omega
  rcases this with h | h | h | h | h | h | h | h <;> subst h <;> decide +kernel
theorem strOct_len {x : Str} {b m : Nat} (h : x.length ≤ 40) : (strOct x b m).length ≤ 100 := by
  unfold strOct
  have := numOct_len x.length b m
  rw [List.length_append, List.length_map, ← str_len]
  omega
/-- from a call's result to what is made of it -/
theorem res_map {α β : Type} {K : PySem.W.Frag} {C N r a : Addr} {os : List Int} {H : Hp} {Q Q' : VK} {E : XK} {Ra : α → V → Hp → Prop} {Rb : β → V → Hp → Prop} {x : Except Nat (α × Nat)} {f : α × Nat → β × Nat}
    (q : RdRes K C N r a os H Q E Rb (x.map f)) (hf : ∀ z, (f z).2 = z.2) (h : ∀ z v H1, x = .ok z → But r H H1 → Rd K C H1 r a os z.2 → Ra z.1 v H1 → (∀ v' H2, Same H1 H2 → Rb (f z).1 v' H2 → Q v' H2) → Q' v H1) : RdRes K C N r a os H Q' E Ra x := by
  cases x with
  | error e => exact q
  | ok z =>
    intro v H1 b1 R1 hv
    refine h z v H1 rfl b1 R1 hv fun v' H2 s2 hv' => q v' H2 (b1.trans (But.of s2)) ?_ hv'
    rw [hf z]
    exact R1.keep s2
theorem oct_list {xs : List V} (h : octV xs = true) : ∃ os : List Int, xs = os.map V.int ∧ ∀ o ∈ os, 0 ≤ o ∧ o < 256 := by
  induction xs with
  | nil => exact ⟨[], rfl, fun o ho => nomatch ho⟩
  | cons x xs ih =>
    have h' : (btw x 0 255 && octV xs) = true := h
    rw [Bool.and_eq_true] at h'
    obtain ⟨os, e, ho⟩ := ih h'.2
    cases x with
    | int i =>
      have h2 : (decide ((0 : Int) ≤ i) && decide (i ≤ 255)) = true := h'.1
      rw [Bool.and_eq_true] at h2
      have h3 := of_decide_eq_true h2.1
      have h4 := of_decide_eq_true h2.2
      refine ⟨i :: os, by rw [e]; rfl, fun o hm => ?_⟩
      rcases List.mem_cons.mp hm with z | z
      · subst z; omega
      · exact ho o z
    | _ => exact nomatch (show false = true from h'.1)
theorem same_but {r : Addr} {H H1 H2 : Hp} (hr : H r = none) (s : Same H H1) (b : But r H1 H2) : Same H H2 := fun c o e => b c o (ne_of_none e hr) (s c o e)
end Fld
/-! data apart from the pen: what is drawn, what is laid new -/
namespace Fld
open PySem PySem.Spec PyProof.Rows L2
/-- the heap but for some objects -/
def OffS (S : List Addr) (H : Hp) : Hp := fun b => if b ∈ S then none else H b
/-- these objects are there -/
def Hid (S : List Addr) (H : Hp) : Prop := ∀ b ∈ S, H b ≠ none
section
variable {K : PySem.W.Frag} {p c q : Addr} {H H' H1 H2 : Hp} {o : HO} {n m : Nat} {S : List Addr}
theorem off_sub (S : List Addr) (H : Hp) : Same (OffS S H) H := fun b u e => by
  unfold OffS at e
  by_cases h : b ∈ S
  · rw [if_pos h] at e; cases e
  · rw [if_neg h] at e; exact e
theorem off_ne {b : Addr} (h : b ∉ S) : OffS S H b = H b := by unfold OffS; rw [if_neg h]
theorem off_get {b : Addr} (h : OffS S H b = some o) : b ∉ S ∧ H b = some o := by
  unfold OffS at h
  by_cases e : b ∈ S
  · rw [if_pos e] at h; cases h
  · rw [if_neg e] at h; exact ⟨e, h⟩
theorem But.off (b : But p H H') (hp : p ∈ S) : Same (OffS S H) (OffS S H') := fun a u e => by
  obtain ⟨n, e⟩ := off_get e
  rw [off_ne n]
  exact b a u (fun z => n (z ▸ hp)) e
theorem _root_.L2.Same.off (s : Same H H') : Same (OffS S H) (OffS S H') := fun a u e => by
  obtain ⟨n, e⟩ := off_get e
  rw [off_ne n]
  exact s a u e
theorem Drew.off (d : Drew p c H H' n) (hp : p ∈ S) : Same (OffS S H) (OffS S H') := d.but.off hp
theorem Dv.on {v : V} {d : PyData} (h : Dv K (OffS S H) v d) : Dv K H v d := h.keep (off_sub S H)
theorem DvAll.on {v : List V} {d : List PyData} (h : DvAll K (OffS S H) v d) : DvAll K H v d := h.keep (off_sub S H)
theorem Hid.keep (h : Hid S H) (s : Same H H') : Hid S H' := fun b hb => by
  cases e : H b with
  | none => exact absurd e (h b hb)
  | some u => rw [s b u e]; exact fun z => nomatch z
theorem Pen.some_ (h : Pen H p c n) : H p ≠ none := by
  obtain ⟨⟨xs, e⟩, _⟩ := h.some
  rw [e]; exact fun z => nomatch z
theorem Hid.drew (h : Hid S H) (d : Drew p c H H' n) : Hid S H' := fun b hb => by
  by_cases z : b = p
  · rw [z]; exact d.pen.some_
  · cases e : H b with
    | none => exact absurd e (h b hb)
    | some u => rw [d.but b u z e]; exact fun z => nomatch z
theorem Hid.one (h : Pen H p c n) : Hid [p] H := fun b hb => by rw [List.mem_singleton.mp hb]; exact h.some_
theorem Hid.nil : Hid [] H := fun b hb => nomatch hb
theorem Hid.cons (h : Hid S H) (hq : H q ≠ none) : Hid (q :: S) H := fun b hb => by
  rcases List.mem_cons.mp hb with rfl | hb
  · exact hq
  · exact h b hb
theorem Hid.not (h : Hid S H) (hq : H q = none) : q ∉ S := fun z => h q z hq
theorem Hid.upd (h : Hid S H) : Hid S (L2.upd H q o) := fun b hb => by
  by_cases z : b = q
  · rw [z, upd_same]; exact fun z => nomatch z
  · rw [upd_ne z]; exact h b hb
/-- a new object is laid beside the hidden ones -/
theorem off_new (hq : H q = none) (hS : Hid S H) : OffS S (upd H q o) q = some o := by rw [off_ne (hS.not hq), upd_same]
theorem new_lst {xs : List V} {ds : List PyData} (hq : H q = none) (hS : Hid S H) (h : DvAll K (OffS S H) xs ds) : Dv K (OffS S (upd H q (.lst xs))) (.ref q) (.list ds) := .lst (SqL.of (off_new hq hS)) (h.keep (Same.new hq).off)
theorem new_tup {xs : List V} {ds : List PyData} (hq : H q = none) (hS : Hid S H) (h : DvAll K (OffS S H) xs ds) : Dv K (OffS S (upd H q (.tup xs))) (.ref q) (.tuple ds) := .tup (SqT.of (off_new hq hS)) (h.keep (Same.new hq).off)
theorem new_dic (hq : H q = none) (hS : Hid S H) : Dv K (OffS S (upd H q (.dK []))) (.ref q) (.dict []) := .dic (off_new hq hS) rfl .nil
theorem at_lst {a : Addr} {xs : List V} {ds : List PyData} (h : H a = some (.lst xs)) (hn : a ∉ S) (d : DvAll K (OffS S H) xs ds) : Dv K (OffS S H) (.ref a) (.list ds) := .lst (SqL.of (by rw [off_ne hn]; exact h)) d
theorem at_tup {a : Addr} {xs : List V} {ds : List PyData} (h : H a = some (.tup xs)) (hn : a ∉ S) (d : DvAll K (OffS S H) xs ds) : Dv K (OffS S H) (.ref a) (.tuple ds) := .tup (SqT.of (by rw [off_ne hn]; exact h)) d
/-- a hidden object turns, and is hidden no more -/
theorem off_put : Same (OffS (q :: S) H) (OffS S (upd H q o)) := fun b u e => by
  obtain ⟨n, e⟩ := off_get e
  have nq : b ≠ q := fun z => n (by rw [z]; exact List.mem_cons_self ..)
  rw [off_ne fun z => n (List.mem_cons_of_mem _ z), upd_ne nq]
  exact e
theorem off_more (hq : H q = none) : Same (OffS S H) (OffS (q :: S) H) := fun b u e => by
  obtain ⟨n, e⟩ := off_get e
  rw [off_ne fun z => ?_]
  · exact e
  · rcases List.mem_cons.mp z with rfl | z
    · rw [hq] at e; cases e
    · exact n z
theorem off_less : Same (OffS (q :: S) H) (OffS S H) := fun b u e => by
  obtain ⟨n, e⟩ := off_get e
  rw [off_ne fun z => n (List.mem_cons_of_mem _ z)]
  exact e
theorem Pen.new (h : Pen H p c n) (hq : H q = none) : Pen (L2.upd H q o) p c n := h.keep (Same.new hq)
theorem DvAll.mem {xs : List V} {ds : List PyData} {x : V} (h : DvAll K H xs ds) (hx : x ∈ xs) : ∃ d ∈ ds, Dv K H x d := by
  obtain ⟨i, hi, rfl⟩ := List.mem_iff_getElem.mp hx
  obtain ⟨d, hd, hv⟩ := h.at (i := i) (x := xs[i]) (by simp)
  exact ⟨d, List.mem_of_getElem? hd, hv⟩
theorem DvAll.of : ∀ {xs : List V}, (∀ x ∈ xs, ∃ d, Dv K H x d) → ∃ ds, DvAll K H xs ds
  | [], _ => ⟨[], .nil⟩
  | x :: xs, h => by
    obtain ⟨d, hd⟩ := h x (List.mem_cons_self ..)
    obtain ⟨ds, hds⟩ := DvAll.of (xs := xs) fun y hy => h y (List.mem_cons_of_mem _ hy)
    exact ⟨d :: ds, .cons hd hds⟩
theorem DvAll.rep {x : V} {d : PyData} (h : Dv K H x d) : ∀ k : Nat, DvAll K H (List.replicate k x) (List.replicate k d)
  | 0 => .nil
  | k + 1 => .cons h (DvAll.rep h k)
end
/-- data that is small: at most d deep, at most b of weight -/
structure Sz (b k : Nat) (d : PyData) : Prop where
  ok : okV d = true
  w : wV d ≤ b
  dp : d.depth ≤ k
theorem Sz.mono {b k b' k' : Nat} {d : PyData} (h : Sz b k d) (l1 : b ≤ b') (l2 : k ≤ k') : Sz b' k' d := ⟨h.ok, Nat.le_trans h.w l1, Nat.le_trans h.dp l2⟩
theorem depthAll_le {k : Nat} : ∀ {ds : List PyData}, (∀ d ∈ ds, d.depth ≤ k) → PyData.depthAll ds ≤ k
  | [], _ => by rw [PyData.depthAll]; omega
  | d :: ds, h => by
    rw [PyData.depthAll]
    have h1 := h d (List.mem_cons_self ..)
    have h2 := depthAll_le (ds := ds) fun e he => h e (List.mem_cons_of_mem _ he)
    omega
theorem depthAll_mem : ∀ {ds : List PyData} {d : PyData}, d ∈ ds → d.depth ≤ PyData.depthAll ds
  | e :: ds, d, h => by
    rw [PyData.depthAll]
    rcases List.mem_cons.mp h with rfl | h
    · omega
    · have := depthAll_mem h; omega
def SzAll (k : Nat) (ds : List PyData) : Prop := okVAll ds = true ∧ PyData.depthAll ds ≤ k
theorem sz_tup {b k : Nat} {ds : List PyData} (h : Sz b (k + 1) (.tuple ds)) : okVAll ds = true ∧ wVAll ds + 4 ≤ b ∧ PyData.depthAll ds ≤ k := by
  obtain ⟨h1, h2, h3⟩ := h
  rw [okV] at h1
  rw [wV] at h2
  rw [PyData.depth] at h3
  exact ⟨h1, h2, by omega⟩
theorem sz_lst {b k : Nat} {ds : List PyData} (h : Sz b (k + 1) (.list ds)) : okVAll ds = true ∧ wVAll ds + 4 ≤ b ∧ PyData.depthAll ds ≤ k := by
  obtain ⟨h1, h2, h3⟩ := h
  rw [okV] at h1
  rw [wV] at h2
  rw [PyData.depth] at h3
  exact ⟨h1, h2, by omega⟩
theorem sz_tup' {b k : Nat} {ds : List PyData} (h1 : okVAll ds = true) (h2 : wVAll ds + 4 ≤ b) (h3 : PyData.depthAll ds ≤ k) : Sz b (k + 1) (.tuple ds) := ⟨by rw [okV]; exact h1, by rw [wV]; exact h2, by rw [PyData.depth]; omega⟩
theorem sz_lst' {b k : Nat} {ds : List PyData} (h1 : okVAll ds = true) (h2 : wVAll ds + 4 ≤ b) (h3 : PyData.depthAll ds ≤ k) : Sz b (k + 1) (.list ds) := ⟨by rw [okV]; exact h1, by rw [wV]; exact h2, by rw [PyData.depth]; omega⟩
theorem sz_str {x : Str} {b : Nat} (h : x.cps.toList.all (fun c => decide (c < 4294967296)) = true) (hl : x.length ≤ 100000) (hb : 10 * x.length + 2 ≤ b) : Sz b 0 (.str x) := ⟨by rw [okV, h, decide_eq_true hl]; rfl, by rw [wV]; exact hb, by rw [PyData.depth]; omega⟩
theorem chars_small {x : Str} (h : x.cps.toList.all isChar = true) : x.cps.toList.all (fun c => decide (c < 4294967296)) = true := by
  rw [List.all_eq_true] at h ⊢
  intro c hc
  have h1 : charCodes.all (fun c => decide (c < 4294967296)) = true := by decide
  exact List.all_eq_true.mp h1 c (List.contains_iff_mem.mp (h c hc))
theorem sz_txt {x : Str} {a : Int} {b : Nat} (h : txt (.str x) a (b : Nat) = true) (hb : b ≤ 100000 := by decide) : Sz (10 * b + 2) 0 (.str x) := by
  have h2 := txt_all h
  have h' : (decide (a ≤ (x.length : Int)) && decide ((x.length : Int) ≤ (b : Nat)) && x.cps.toList.all isChar) = true := h
  simp only [Bool.and_eq_true, decide_eq_true_eq] at h'
  exact sz_str (chars_small h2) (by omega) (by omega)
theorem sz_int {i : Int} (h : i.natAbs < 2 ^ 1000 := by decide +kernel) : Sz 1010 0 (.int i) := ⟨decide_eq_true h, Nat.le_refl _, by rw [PyData.depth]; omega⟩
/-! ### what a draw of any data promises -/
/-- k draws at most; data of weight b at most, d deep at most -/
def sp_drawV (K : PySem.W.Frag) (k b e : Nat) (f : PyData → Prop) : Sp := fun vs H Q _ => ∃ (p c : Addr) (n : Nat) (S : List Addr), vs = [.ref p] ∧ Pen H p c n ∧ n ≤ 700000 ∧ p ∈ S ∧ Hid S H ∧
  ∀ (v : V) (d : PyData) H', Dv K (OffS S H') v d → Sz b e d → f d → Drew p c H H' (n + k) → Q v H'
/-- one of a text's signs -/
def sp_one_str : Sp := fun vs H Q _ => ∃ (p c : Addr) (n : Nat) (z : Str), vs = [.ref p, .str z] ∧ Pen H p c n ∧ 0 < z.length ∧ z.length ≤ 1000 ∧ n ≤ 900000 ∧ ∀ (x : Nat) H', x ∈ z.cps.toList → Drew p c H H' (n + 1) → Q (.str ⟨#[x]⟩) H'
def otherSigns : Str := "!#$&'()*+,<>?@ABCDEFGHIJKLMNOPQRSTUVWXYZ[]^_`{|}~\"\\"
theorem other_small : otherSigns.cps.toList.all (fun c => decide (c < 4294967296)) = true := by decide +kernel
theorem small_app {x y : Str} (hx : x.cps.toList.all (fun c => decide (c < 4294967296)) = true) (hy : y.cps.toList.all (fun c => decide (c < 4294967296)) = true) : (x ++ y).cps.toList.all (fun c => decide (c < 4294967296)) = true := by
  have e : (x ++ y).cps.toList = x.cps.toList ++ y.cps.toList := by
    show (x.cps ++ y.cps).toList = _
    simp
  rw [e, List.all_append, hx, hy]; rfl
theorem small_cut {x : Str} {a b : Option Int} (hx : x.cps.toList.all (fun c => decide (c < 4294967296)) = true) : (cutS x a b).cps.toList.all (fun c => decide (c < 4294967296)) = true := by
  rw [List.all_eq_true] at hx ⊢
  intro c hc
  unfold cutS at hc
  exact hx c (List.mem_of_mem_drop (List.mem_of_mem_take hc))
theorem cutS_len (x : Str) (a b : Option Int) : (cutS x a b).length ≤ x.length := by
  unfold cutS
  show ((x.cps.toList.drop _).take _).toArray.size ≤ x.cps.size
  simp only [List.size_toArray, List.length_take, List.length_drop, Array.length_toList]
  omega
end Fld
namespace Fld
open PySem PySem.Spec PyProof.Rows L2
/-- a value with one part changed, or another: no more than one deeper, at most twice the weight -/
def sp_bent (K : PySem.W.Frag) (M : Nat) : Sp := fun vs H Q _ => ∃ (p c : Addr) (n : Nat) (v : V) (d : PyData) (b e : Nat) (S : List Addr), vs = [.ref p, v] ∧ Pen H p c n ∧ n + 100 * (e + 1) ≤ 600000 ∧ p ∈ S ∧ Hid S H ∧ Dv K (OffS S H) v d ∧ Sz b e d ∧ e ≤ M ∧ M ≤ 20 ∧ b ≤ 100000 ∧
  ∀ (v' : V) (d' : PyData) H', Dv K (OffS S H') v' d' → Sz (2 * b + 2000) (e + 1) d' → Drew p c H H' (n + 100 * (e + 1)) → Q v' H'
def sp_bent_sub (K : PySem.W.Frag) : Nat → Sp
  | 0 => fun _ _ _ _ => False
  | m + 1 => sp_bent K m
theorem wVAll_set : ∀ {ds : List PyData} {i : Nat} {d e : PyData}, ds[i]? = some d → wVAll (ds.set i e) + wV d = wVAll ds + wV e
  | [], _, _, _, h => by simp at h
  | x :: xs, 0, d, e, h => by
    simp at h; subst h
    rw [List.set_cons_zero, wVAll, wVAll]
    omega
  | x :: xs, i + 1, d, e, h => by
    have := wVAll_set (ds := xs) (i := i) (d := d) (e := e) (by simpa using h)
    rw [List.set_cons_succ, wVAll, wVAll]; omega
theorem okVAll_set {ds : List PyData} {i : Nat} {e : PyData} (h : okVAll ds = true) (he : okV e = true) : okVAll (ds.set i e) = true := by
  refine okVAll_of fun d hd => ?_
  rcases List.mem_or_eq_of_mem_set hd with h1 | rfl
  · exact okVAll_mem h h1
  · exact he
theorem depthAll_set {k : Nat} {ds : List PyData} {i : Nat} {e : PyData} (h : PyData.depthAll ds ≤ k) (he : e.depth ≤ k) : PyData.depthAll (ds.set i e) ≤ k := by
  refine depthAll_le fun d hd => ?_
  rcases List.mem_or_eq_of_mem_set hd with h1 | rfl
  · exact Nat.le_trans (depthAll_mem h1) h
  · exact he
theorem wVAll_erase : ∀ (ds : List PyData) (i : Nat), wVAll (ds.eraseIdx i) ≤ wVAll ds
  | [], _ => Nat.le_refl _
  | x :: xs, 0 => by rw [List.eraseIdx_cons_zero, wVAll]; omega
  | x :: xs, i + 1 => by have := wVAll_erase xs i; rw [List.eraseIdx_cons_succ, wVAll, wVAll]; omega
theorem DvAll.erase {K : PySem.W.Frag} {H : Hp} : ∀ {xs : List V} {ds : List PyData} (i : Nat), DvAll K H xs ds → DvAll K H (xs.eraseIdx i) (ds.eraseIdx i)
  | _, _, _, .nil => .nil
  | _, _, 0, .cons _ t => t
  | _, _, i + 1, .cons q t => .cons q (DvAll.erase i t)
theorem okVAll_erase {ds : List PyData} {i : Nat} (h : okVAll ds = true) : okVAll (ds.eraseIdx i) = true := okVAll_of fun d hd => okVAll_mem h (List.mem_of_mem_eraseIdx hd)
theorem depthAll_erase {k : Nat} {ds : List PyData} {i : Nat} (h : PyData.depthAll ds ≤ k) : PyData.depthAll (ds.eraseIdx i) ≤ k := depthAll_le fun d hd => Nat.le_trans (depthAll_mem (List.mem_of_mem_eraseIdx hd)) h
def insD (ds : List PyData) (i : Nat) (d : PyData) : List PyData := ds.take i ++ [d] ++ ds.drop i
theorem wVAll_ins (ds : List PyData) (i : Nat) (d : PyData) : wVAll (insD ds i d) = wVAll ds + wV d + 2 := by
  unfold insD
  rw [wVAll_app, wVAll_app]
  have e : wVAll ds = wVAll (ds.take i) + wVAll (ds.drop i) := by rw [← wVAll_app, List.take_append_drop]
  have e2 : wVAll [d] = wV d + 2 := by rw [wVAll, wVAll]
  omega
theorem ins_mem {ds : List PyData} {i : Nat} {d x : PyData} (h : x ∈ insD ds i d) : x ∈ ds ∨ x = d := by
  unfold insD at h
  rcases List.mem_append.mp h with h | h
  · rcases List.mem_append.mp h with h | h
    · exact .inl (List.mem_of_mem_take h)
    · exact .inr (List.mem_singleton.mp h)
  · exact .inl (List.mem_of_mem_drop h)
theorem okVAll_ins {ds : List PyData} {i : Nat} {d : PyData} (h : okVAll ds = true) (hd : okV d = true) : okVAll (insD ds i d) = true := okVAll_of fun x hx => by
  rcases ins_mem hx with h1 | rfl
  · exact okVAll_mem h h1
  · exact hd
theorem depthAll_ins {k : Nat} {ds : List PyData} {i : Nat} {d : PyData} (h : PyData.depthAll ds ≤ k) (hd : d.depth ≤ k) : PyData.depthAll (insD ds i d) ≤ k := depthAll_le fun x hx => by
  rcases ins_mem hx with h1 | rfl
  · exact Nat.le_trans (depthAll_mem h1) h
  · exact hd
theorem DvAll.ins {K : PySem.W.Frag} {H : Hp} {xs : List V} {ds : List PyData} {x : V} {d : PyData} (i : Nat) (h : DvAll K H xs ds) (hx : Dv K H x d) : DvAll K H (xs.take i ++ [x] ++ xs.drop i) (insD ds i d) := ((h.take i).app (.cons hx .nil)).app (h.drop i)
theorem depth0 {d : PyData} (h : d.depth ≤ 0) : isTup d = false ∧ isLst d = false := by
  cases d with
  | list l => rw [PyData.depth] at h; omega
  | tuple l => rw [PyData.depth] at h; omega
  | _ => exact ⟨rfl, rfl⟩
end Fld
namespace Fld
open PySem PySem.Spec PyProof.Rows L2
theorem with_leaf {G : Prop} {R : Hp → Prop} (Body : Hp → Prop) (h : ∀ H1, R H1 → Body H1) (m : (∀ H1, R H1 → Body H1) → G) : G := m h
/-- a tuple or a list, its items -/
theorem Dv.seqs {K : PySem.W.Frag} {H : Hp} {v : V} {d : PyData} (h : Dv K H v d) (e : (subT (tyD d) "tuple" || subT (tyD d) "list") = true) :
    ∃ a xs ds, v = .ref a ∧ ((SqT K H a xs ∧ d = .tuple ds) ∨ (SqL K H a xs ∧ d = .list ds)) ∧ DvAll K H xs ds := by
  rw [sub_tup, sub_lst] at e
  cases h <;> first | cases e | skip
  · rename_i hs ha
    exact ⟨_, _, _, rfl, .inr ⟨hs, rfl⟩, ha⟩
  · rename_i hs ha
    exact ⟨_, _, _, rfl, .inl ⟨hs, rfl⟩, ha⟩
theorem seq_len {K : PySem.W.Frag} {H : Hp} {a : Addr} {xs : List V} {P Q : Prop} (h : (SqT K H a xs ∧ P) ∨ (SqL K H a xs ∧ Q)) : LenV K (.ref a) H xs.length := by
  rcases h with h | h
  · exact .inr ⟨_, h.1, rfl⟩
  · exact .inl ⟨_, h.1, rfl⟩
theorem ixN_n {n i : Nat} (h : i < n) : ixN n (i : Int) = some i := Evl.ixN_nat h
end Fld
namespace Fld
open PySem PySem.Spec PyProof.Rows L2
section
variable {K : PySem.W.Frag} {p c q D : Addr} {H H' H1 H2 Ha H4 : Hp} {o : HO} {n m k b e : Nat} {S : List Addr} {f : PyData → Prop}
theorem off_hid (h : q ∈ S) : Same (OffS S H) (OffS S (upd H q o)) := fun a u e => by
  obtain ⟨n, e⟩ := off_get e
  have na : a ≠ q := fun z => n (by rw [z]; exact h)
  rw [off_ne n, upd_ne na]
  exact e
/-- a list of drawn data under way at D -/
structure LcI (K : PySem.W.Frag) (p c D : Addr) (S : List Addr) (Ha : Hp) (n k b e : Nat) (f : PyData → Prop) (i : Nat) (ys : List V) (H' : Hp) : Prop where
  drew : Drew p c Ha H' (n + k * i)
  ex : ∃ ds, DvAll K (OffS (D :: S) H') ys ds ∧ ∀ d ∈ ds, Sz b e d ∧ f d
theorem LcI.start (hp : Pen Ha p c n) (hD : Ha D = none) : LcI K p c D S Ha n k b e f 0 [] (upd Ha D (.lst [])) :=
  ⟨⟨(hp.new hD).mono (by omega), But.new hD⟩, [], .nil, fun d hd => nomatch hd⟩
theorem LcI.step {i : Nat} {ys : List V} {v : V} {d : PyData} (I : LcI K p c D S Ha n k b e f i ys H') (hp : Pen Ha p c n) (pS : p ∈ S) (hD : Ha D = none) (g : H' D = some (.lst ys)) (hv : Dv K (OffS (D :: S) H4) v d) (hz : Sz b e d) (hf : f d) (h4 : Drew p c H' H4 (n + k * i + k)) :
    H4 D = some (.lst ys) ∧ LcI K p c D S Ha n k b e f (i + 1) (ys ++ [v]) (upd H4 D (.lst (ys ++ [v]))) := by
  have nD : D ≠ p := fun z => hp.some_ (z ▸ hD)
  have nC : c ≠ D := hp.nec hD
  obtain ⟨ds, hds, ha⟩ := I.ex
  refine ⟨h4.but _ _ nD g, ⟨⟨(h4.pen.upd (fun z => nD z.symm) nC).mono (by rw [Nat.mul_succ]; omega), (I.drew.but.trans h4.but).put hD⟩, ds ++ [d], ?_, ?_⟩⟩
  · exact (((hds.keep (h4.off (List.mem_cons_of_mem _ pS))).app (.cons hv .nil))).keep (off_hid (List.mem_cons_self ..))
  · intro x hx
    rcases List.mem_append.mp hx with h | h
    · exact ha x h
    · rw [List.mem_singleton.mp h]; exact ⟨hz, hf⟩
end
end Fld
/-! an error that an except clause hands to a local: it stays known behind the clause; isinstance of it -/
namespace Fld
open PySem PySem.Spec PyProof.Rows L2
/-- a caught error of the class cls, its own dict d, at a -/
def ExK (cls : Value) (d : Option Addr) (a : Addr) : HO := .ext fun h => ∃ (oe : Obj) (vs : Array Value), h.get? a = some oe ∧ Zc cls d oe ∧ oe.data = .fields vs
section
variable {X : Cx} {pins : List (Addr × Obj)} {σ : L2.St} {H : Hp} {s : Shared} {a : Addr} {oe : Obj} {cls : Value} {d : Option Addr}
theorem adopt (I : Inv X pins σ H s) (ha : s.heap.get? a = some oe) (hz : Zc cls d oe) (hf : ∃ vs, oe.data = .fields vs) (na : H a = none) (n0 : X.s_0.heap.get? a = none) (nL : a ≠ X.env.locals) (np : ∀ p ∈ X.pn ++ pins, p.1 ≠ a) :
    Inv X pins σ (upd H a (ExK cls d a)) s := by
  obtain ⟨vs, hv⟩ := hf
  have nw : ObjOk X.prog X.w (upd H a (ExK cls d a)) s.heap a (ExK cls d a) := ⟨⟨oe, vs, ha, hz, hv⟩, ⟨oe, ha⟩, fun h1 h2 ⟨o, v, q1, q2⟩ k => ⟨o, v, k o q1, q2⟩⟩
  have b := I.base
  have apart : ∀ c o, X.s_0.heap.get? c = some o → c ≠ a := fun c o e z => by rw [z, n0] at e; cases e
  have got : ∀ (c : Addr) (u : HO), H c = some u → upd H a (ExK cls d a) c = some u := fun c u e => by rw [upd_ne (ne_of_none e na)]; exact e
  refine ⟨I.ok, I.os, I.bare, ⟨b.keep, b.slot, fun c o e n hx => ?_, b.there, fun c xs e => got _ _ (b.tups c xs e), fun c o u e => got _ _ (b.frzs c o u e), fun c ps e => ?_⟩, I.loc, I.cell, ?_, fun x c e => ?_, fun p hp => ?_, ?_, I.len⟩
  · rw [upd_ne (apart c o e)]
    exact b.free c o e n hx
  · obtain ⟨m, e2⟩ := b.tbls c ps e
    exact ⟨m, got _ _ e2⟩
  · rw [upd_ne (Ne.symm nL)]
    exact I.free
  · obtain ⟨v, o, e1, e2⟩ := I.cell x c e
    have nc : c ≠ a := fun z => by
      rw [z, ha] at e1
      cases e1
      rw [hv] at e2
      simp at e2
    rw [upd_ne nc]
    exact I.freeC x c e
  · obtain ⟨q1, q2, q3⟩ := I.pin p hp
    exact ⟨q1, by rw [upd_ne (np p hp)]; exact q2, q3⟩
  · exact I.hok.laidN (fun _ _ z => z) na nw
end
/-- what a clause 'except x as n' wishes, whose error stays known -/
def wKeep (K : PySem.W.Frag) (c : Value) (i : Nat) (ts : Addr → Value → Option Addr → TS) (Wout : WX) (D : Ends) : WX := fun cls d σ H =>
  ∃ b, PySem.W.exmOne K cls c = some b ∧ (b = true → ∀ a, H a = none → ts a cls d { nx := fun σ' H' => H' a = none → D.nx (σ'.set i none) (upd H' a (ExK cls d a)), rt := D.rt, bk := fun σ' H' => D.bk (σ'.set i none) H', ct := fun σ' H' => D.ct (σ'.set i none) H' } (σ.set i (some (.ref a))) H) ∧
    (b = false → Wout cls d σ H)
end Fld
namespace Fld
open PySem PySem.Spec PyProof.Rows L2
section
variable {X : Cx} {x n : Str} {c : Value} {i : Nat} {body suite : List Stmt} {b0 : Stmt} {np pos pos' : Pos} {tb : WX → TS} {ts : Addr → Value → Option Addr → TS} {Wout : WX}
theorem keep_catch {pins : List (Addr × Obj)} {s' : Shared} {D : Ends} {u : Value} (okX : X.Ok) (hst : X.stack = X.env :: X.outer) (hfm : X.env.frame = some X.env.locals) (nod : X.N.Nodup) (hix : X.N[i]? = some n) (lcl : X.env.kindOf n = some .local) (nam : Names X x c) (hex : X.ex = []) (tko : Takes X Wout)
    (su : ∀ (a : Addr) (oe : Obj) (cls : Value) (d : Option Addr) (pn : List (Addr × Obj)), Zc cls d oe → (∃ vs, oe.data = .fields vs) → PSs (X.suite a ((a, oe) :: pn)) (b0 :: suite) (ts a cls d))
    {xe : Value → Shared → Prop} (xx : XE (X.tr (X.pn ++ pins) xe) (wKeep X.K c i ts Wout D) u s') :
    wpAny (model X.prog X.w) X.A (noteFrame u X.env) (fun _ s2 => wpAny (model X.prog X.w) X.A (setFlight u none) (fun _ s3 =>
      wpAny (model X.prog X.w) X.A (handleBy u X.env [.ExceptHandler (some (.Name x np)) (some n) (b0 :: suite) pos']) (SP X pins D) X.xe s3) X.xe s2) X.xe s' := by
  obtain ⟨a, B, sI, pin2, σ1, H1, cls, d, rfl, Jt, nbB, upS, skyT, noA, eOs, eAg, bb, exB, whenT, whenF⟩ := xx
  have JJ : Inv X pins σ1 H1 sI := Jt.ofTry okX
  have fr2 : X.A.frames = some (X.env :: X.outer) := by rw [okX.frames, hst]
  have vis2 : Loc X.env.scope n := Or.inl lcl
  have skyX : Sky B (X.env :: X.outer) a (Zc cls d) X.env.locals s'.heap := by rw [← hst]; exact skyT
  refine Sky.land Zc.steady fr2 hfm skyX fun hA flA upA => ?_
  have JA : Inv X pins σ1 H1 { s' with heap := hA } := JJ.landed nbB flA.1 (upS.trans upA) eOs eAg
  obtain ⟨oeA, vsA, atA, zcA, dtA⟩ := flA.there
  have offFr : a ∉ frs (X.env :: X.outer) := fun hm => by
    obtain ⟨_, o', e', hnf⟩ := flA.2.2.1.mem hm
    rw [atA] at e'
    cases e'
    exact hnf _ dtA
  have offL : a ≠ X.env.locals := fun z => offFr (List.mem_filterMap.mpr ⟨X.env, .head _, by rw [hfm, z]⟩)
  have offF : a ∉ X.fs := fun hm => by
    obtain ⟨e, he, q⟩ := List.mem_filterMap.mp hm
    exact offFr (List.mem_filterMap.mpr ⟨e, .tail _ he, q⟩)
  have newA : sI.heap.get? a = none := by
    cases q : sI.heap.get? a with
    | none => rfl
    | some o =>
      have := nbB a o q (by show a ∉ frs X.stack; rw [hst]; exact offFr)
      rw [flA.2.1] at this
      cases this
  have s0A : X.s_0.heap.get? a = none := by
    cases q : X.s_0.heap.get? a with
    | none => rfl
    | some o =>
      obtain ⟨o', e'⟩ := JJ.base.there a o q (by rw [hex]; exact fun z => nomatch z)
      rw [newA] at e'
      cases e'
  have apart : ∀ p ∈ X.pn ++ pins, p.1 ≠ a := fun p hp z => by
    have hq : p ∈ (X.pn ++ pins) ++ pin2 := List.mem_append.mpr (.inl hp)
    have := (Jt.pin p hq).1
    rw [z, newA] at this
    cases this
  have SA := JA.suite atA dtA noA offL offF
  refine wpAny_handleBy_cons (codeAny_handlers_test ?_) (fun q => by cases q)
  have LKa : PySem.W.Looks (model X.prog X.w) hA (typeOf (.ref a)) cls := fun A2 Q2 E2 s2 k2 q2 => wpAny_typeOf_ref (k2 _ _ atA) (by rw [zcA.1]; exact q2)
  have LKm := PySem.W.exm_one (M := model X.prog X.w) JA.kIn LKa exB
  have ask : ∀ {Q2 : Value → Shared → Prop} {E2 : Value → Shared → Prop}, Q2 c { s' with heap := hA } → wpAny (model X.prog X.w) (X.A.mark (some (.ref a))) (eval (.Name x np) X.env) Q2 E2 { s' with heap := hA } := fun {Q2 E2} q2 => by
    rcases nam with ⟨g1, g2, g3 | ⟨g3, g4, g5⟩⟩
    · exact ld_glob (X := X.suite a ((a, oeA) :: (X.pn ++ pins))) SA g1 g3 q2 g2
    · exact ld_blt (X := X.suite a ((a, oeA) :: (X.pn ++ pins))) SA g1 g3 g4 q2 g5 g2
  refine ask (LKm.here ?_)
  cases bb with
  | true =>
    refine codeAny_handlers_suite_as (HandSPX.lands_againZ flA fun hB flB upB => ?_)
    have JB : Inv X pins σ1 H1 { s' with heap := hB } := JJ.landed nbB flB.1 ((upS.trans upA).trans upB) eOs eAg
    obtain ⟨oeB, vsB, atB, zcB, dtB⟩ := flB.there
    have SB := JB.suite atB dtB noA offL offF
    refine store_ok (X := X.suite a ((a, oeB) :: (X.pn ++ pins))) (v := .ref a) SB nod hix vis2 rfl (fun sC SC => ?_) (.inr lcl)
    refine wpAny_mono ((su a oeB cls d (X.pn ++ pins) zcB ⟨_, dtB⟩).run [] sC _ H1 _ SC (whenT rfl a noA)) (fun f sD hD => ?_) (fun _ _ z => z.elim)
    have shut : ∀ {σ6 : L2.St} {H6 : Hp} {Q : Shared → Prop}, Inv (X.suite a ((a, oeB) :: (X.pn ++ pins))) [] σ6 H6 sD → (∀ s7, Inv X pins (σ6.set i none) H6 s7 → Q s7) →
        wpAny (model X.prog X.w) X.A (do bindName X.env n .none; unbindBehindTheSuite X.env n pos') (fun _ s7 => Q s7) X.xe sD := fun {σ6 H6 Q} S6 hq => gone_ok (S6.unsuite okX) nod hix lcl hq
    have shutK : ∀ {σ6 : L2.St} {H6 : Hp} {Q : Shared → Prop}, Inv (X.suite a ((a, oeB) :: (X.pn ++ pins))) [] σ6 H6 sD → (∀ s7, Inv X pins (σ6.set i none) (upd H6 a (ExK cls d a)) s7 → Q s7) →
        wpAny (model X.prog X.w) X.A (do bindName X.env n .none; unbindBehindTheSuite X.env n pos') (fun _ s7 => Q s7) X.xe sD := fun {σ6 H6 Q} S6 hq => by
      obtain ⟨p1, p2, p3, p4, p5⟩ := S6.pin (a, oeB) (.head _)
      exact gone_ok (adopt (S6.unsuite okX) p1 zcB ⟨_, dtB⟩ p2 s0A p3 apart) nod hix lcl hq
    cases f with
    | next =>
      obtain ⟨σ6, H6, S6, q6⟩ := hD
      exact shutK S6 fun s7 J7 => ⟨_, _, J7, q6 (S6.pin (a, oeB) (.head _)).2.1⟩
    | brk =>
      obtain ⟨σ6, H6, S6, q6⟩ := hD
      exact shut S6 fun s7 J7 => ⟨_, _, J7, q6⟩
    | cont =>
      obtain ⟨σ6, H6, S6, q6⟩ := hD
      exact shut S6 fun s7 J7 => ⟨_, _, J7, q6⟩
    | ret u =>
      obtain ⟨v6, σ6, H6, S6, r6, q6⟩ := hD
      exact shut S6 fun s7 J7 => ⟨_, _, _, J7, r6, q6⟩
  | false =>
    show wpAny _ X.A (handleBy (.ref a) X.env []) _ _ _
    refine wpAny_handleBy_nil ?_
    obtain ⟨kk1, kk2, kk3, oe, vs, T, oT, tt, he, hz, hd, h1, hr⟩ := id flA
    unfold PySem.passOn
    refine wpAny_bind (wpAny_field he hd h1 ?_)
    rw [if_neg (show ¬ ((Value.ref T == Value.none) = true) by simp)]
    have goOn : wpAny (model X.prog X.w) X.A (setFlight (.ref a) X.env.frame) (fun _ s4 => wpAny (model X.prog X.w) X.A (throw (.ref a) : Sem Flow) (SP X pins D) X.xe s4) X.xe { s' with heap := hA } := by
      rw [hfm]
      refine HandSPX.setFlight_upZ flA fun hB fB upB => wpAny_throw (tko _ _ ?_)
      exact ⟨a, B, sI, pins, σ1, H1, cls, d, rfl, JJ, nbB, (upS.trans upA).trans upB, .inr (.inr (by rw [hst]; exact fB)), noA, eOs, eAg, whenF rfl⟩
    first
      | exact wpAny_bind (wpAny_pure (wpAny_bind goOn))
      | exact wpAny_bind goOn
theorem ps_try_keep (hst : X.stack = X.env :: X.outer) (hfm : X.env.frame = some X.env.locals) (nod : X.N.Nodup) (hix : X.N[i]? = some n) (lcl : X.env.kindOf n = some .local) (nam : Names X x c) (hex : X.ex = []) (tko : Takes X Wout)
    (bd : ∀ (W : WX) (pn : List (Addr × Obj)) (xe : Value → Shared → Prop), Takes (X.tr pn xe) W → PassesOwn (model X.prog X.w) X.A X.env xe → PSs (X.tr pn xe) body (tb W))
    (su : ∀ (a : Addr) (oe : Obj) (cls : Value) (d : Option Addr) (pn : List (Addr × Obj)), Zc cls d oe → (∃ vs, oe.data = .fields vs) → PSs (X.suite a ((a, oe) :: pn)) (b0 :: suite) (ts a cls d)) :
    PS X (.Try body [.ExceptHandler (some (.Name x np)) (some n) (b0 :: suite) pos'] [] [] pos) (fun D σ H => tb (wKeep X.K c i ts Wout D) D σ H) := by
  refine ⟨fun pins s σ H D I h => wpAny_Try_except ?_⟩
  have okX := I.ok
  have whole := (bd (wKeep X.K c i ts Wout D) (X.pn ++ pins) (fun e s1 => wpAny (model X.prog X.w) X.A (noteFrame e X.env) (fun _ s2 => wpAny (model X.prog X.w) X.A (setFlight e none) (fun _ s3 =>
    wpAny (model X.prog X.w) X.A (handleBy e X.env [.ExceptHandler (some (.Name x np)) (some n) (b0 :: suite) pos']) (SP X pins D) X.xe s3) X.xe s2) X.xe s1) (fun u s' xx => keep_catch okX hst hfm nod hix lcl nam hex tko su xx) PassesOwn.looking).run [] s σ H D (I.toTry _) h
  refine wpAny_mono whole (fun f s1 hsp => ?_) (fun e s1 he => he)
  cases f with
  | next =>
    obtain ⟨σ', H', J', q⟩ := hsp
    exact wpAny_execs_nil ⟨σ', H', J'.ofTry okX, q⟩
  | brk =>
    obtain ⟨σ', H', J', q⟩ := hsp
    exact ⟨σ', H', J'.ofTry okX, q⟩
  | cont =>
    obtain ⟨σ', H', J', q⟩ := hsp
    exact ⟨σ', H', J'.ofTry okX, q⟩
  | ret u =>
    obtain ⟨v, σ', H', J', r, q⟩ := hsp
    exact ⟨v, σ', H', J'.ofTry okX, r, q⟩
end
end Fld
namespace Fld
open PySem PySem.Spec PyProof.Rows L2
/-- isinstance(x, C), C of one's own: of a plain caught error; of what has a built-in type -/
def rIsX (K : PySem.W.Frag) : List V → Hp → VK → Prop := fun xs H Q => ∃ (a D : Addr) (c : V) (cv : Value) (b : Bool), xs = [.ref a, c] ∧ H a = some (ExK (.ref D) none a) ∧ ExcC K D ∧ ClsV c cv ∧ PySem.W.kitOne K (.ref D) cv = some b ∧ Q (.bl b) H
theorem call_isX {X : Cx} : CallR X (.builtin "isinstance") (rIsX X.K) := by
  intro pins s σ H xs us Q I r h
  obtain ⟨a, D, c, cv, b, rfl, ha, C, hcv, e, q⟩ := h
  obtain ⟨u1, u2, rfl, r1, r2⟩ := vals2 r
  cases (show u1 = Value.ref a from r1)
  have ec := hcv.eq r2
  subst ec
  obtain ⟨⟨oe, vs, hget, hz, hv⟩, _⟩ := I.hok a _ ha
  have J : PySem.W.InstAt s.heap a oe D none := by
    obtain ⟨oc, od, oda, osl⟩ := oe
    obtain ⟨h1, h2⟩ := hz
    dsimp only at h1 h2 hv
    subst h1 h2 hv
    exact ⟨hget, rfl, rfl, True.intro⟩
  exact PySem.W.kia_one (PySem.W.handS_kitx_exc C.hg C.hk C.hs C.hd C.ha C.hn C.ht C.hm) I.kIn J e (fun z => nomatch z) fun tk => ⟨.bl b, H, I.kept (t' := tk) fun _ _ z => z, rfl, q⟩
def rIsU (K : PySem.W.Frag) : List V → Hp → VK → Prop := fun xs H Q => rIsi K xs H Q ∨ rIsX K xs H Q
theorem call_isU {X : Cx} : CallR X (.builtin "isinstance") (rIsU X.K) := by
  intro pins s σ H xs us Q I r h
  rcases h with h | h
  · exact call_isi pins s σ H xs us Q I r h
  · exact call_isX pins s σ H xs us Q I r h
/-- an own class in isinstance -/
theorem kit_own {K : PySem.W.Frag} {t : Value} {C : Addr} {b : Bool} (hd : PySem.W.hasDictIn K C = true) (ht : PySem.W.typeIn K (.ref C) = some (.type "type")) (hs : PySem.W.subIn K t (.ref C) = some b) (hb : b = false → (t == .ref C) = false) : PySem.W.kitOne K t (.ref C) = some b := by
  obtain ⟨cd, hc, _⟩ := PySem.W.any_some hd
  have e2 : ((PySem.W.clsIn K C).isSome && PySem.W.typeIn K (.ref C) == some (.type "type")) = true := by rw [hc, ht]; rfl
  have e3 : PySem.W.kitCls K t (.ref C) = some b := by
    show (if ((PySem.W.clsIn K C).isSome && PySem.W.typeIn K (.ref C) == some (.type "type")) = true then PySem.W.subIn K t (.ref C) else none) = some b
    rw [if_pos e2]; exact hs
  unfold PySem.W.kitOne
  cases c : (t == Value.ref C) with
  | true =>
    cases b with
    | true => rw [if_pos rfl]
    | false => rw [hb rfl] at c; cases c
  | false => rw [if_neg (by decide)]; exact e3
/-- what isinstance of an error of one's own asks of its class -/
structure IsC (K : PySem.W.Frag) (C : Addr) : Prop where
  x : ExcC K C
  t : PySem.W.typeIn K (.ref C) = some (.type "type")
  n : PySem.W.subIn K (.type "NoneType") (.ref C) = some false
theorem IsC.none {K : PySem.W.Frag} {C : Addr} (h : IsC K C) : PySem.W.kitOne K (.type "NoneType") (.ref C) = some false := kit_own h.x.hd h.t h.n fun _ => rfl
theorem IsC.self {K : PySem.W.Frag} {C : Addr} (h : IsC K C) (s : PySem.W.subIn K (.ref C) (.ref C) = some true) : PySem.W.kitOne K (.ref C) (.ref C) = some true := kit_own h.x.hd h.t s fun z => nomatch z
end Fld
namespace Fld
open PySem PySem.Spec PyProof.Rows L2
theorem ixK {r : PySem.W.Frag → R2} {K : PySem.W.Frag} {X : Cx} (h : IxR X (r X.K)) (e : X.K = K := by rfl) : IxR X (r K) := e ▸ h
theorem opK {r : PySem.W.Frag → R2} {K : PySem.W.Frag} {X : Cx} {o : Value → Value → Sem Value} (h : OpR X o (r X.K)) (e : X.K = K := by rfl) : OpR X o (r K) := e ▸ h
theorem clK {r : PySem.W.Frag → List V → Hp → VK → Prop} {K : PySem.W.Frag} {X : Cx} {f : Value} (h : CallR X f (r X.K)) (e : X.K = K := by rfl) : CallR X f (r K) := e ▸ h
end Fld
/-! == of any value with a text, in among texts, a tuple with (), a tuple turned about -/
namespace Fld
open PySem PySem.Spec PyProof.Rows L2
section
variable {A : Around} {s : Shared} {l : Addr} {o : Obj} {es : Array DictEntry} {n : Nat}
theorem dict_declines {P : Program} {w : World} {E : Value → Shared → Prop} {z : Str} {u : Tok} (hT : s.TypeIs (.ref l) "dict") (Q : Value → Shared → Prop) (q : Q .notImplemented s) : wpAny (model P w) A (call (.builtin "dict.__eq__") [.ref l, .str z u]) Q E s := by
  refine wpAny_call_entry PySem.F.slot_dict_eq hT PySem.F.entry_dict_eq ?_ (PySem.F.args_dict_eq_2 _ _)
  show wpAny _ _ (Builtin.Dict.dictSlotArgs "__eq__" ⟨[.ref l, .str z u], []⟩ >>= _) _ _ s
  refine wpAny_bind ?_
  unfold Builtin.Dict.dictSlotArgs
  refine wpAny_bind (wpAny_notOrdered_dict hT ?_)
  show wpAny _ _ (pure (Value.ref l, Value.str z u)) _ _ s
  refine wpAny_pure ?_
  refine wpAny_bind (wpAny_isInstance (T := "str") (typeIs_str s z u) PySem.F.sub_str_dict ?_)
  simp only [Bool.not_false, if_true]
  exact wpAny_bind (wpAny_rule (wpAny_bind (wpAny_pure (wpAny_pure ⟨_, rfl, q⟩))))
end
end Fld
namespace Fld
open PySem PySem.Spec PyProof.Rows L2
open PySem.MeetsSeq
theorem str_dict_declines (b : Str) (u : Tok) (l : Addr) (c : Value) (es : Array DictEntry) (ep : Nat) (dd : Option Addr) (sl : Array (Option Value)) :
    Meets (Builtin.«str.__eq__» ⟨[.str b u, .ref l], []⟩) (fun _ R s => s.heap.get? l = some { cls := c, dict := dd, data := .dict es ep, slots := sl } ∧ R (.ok (.ret .notImplemented)) s) := .of_wp fun P w A R s h => by
  obtain ⟨hp, g, d, tk, os⟩ := s
  obtain ⟨hl, h⟩ := h
  wp_walk using PySem.AutoSeq1.wpAny_loadPart' hl, wpAny_load hl
  exact ⟨_, rfl, h⟩
section
variable {A : Around} {s : Shared} {l : Addr} {o : Obj}
theorem rc_dict_str {es : Array DictEntry} {ep : Nat} (z : Str) (u : Tok) (ho : s.heap.get? l = some o) (ex : o.ExactDict) (hd : o.data = .dict es ep) (hu : A.units < cLine) : SeqAt.RcAt A s (.ref l) (.str z u) false := fun P w E Q h => by
  obtain ⟨cls, dd, data, sl⟩ := o
  obtain ⟨hc, _, _⟩ := ex
  simp only at hc hd
  subst hc hd
  exact SeqAt.rc_eq_decline_or (k := false) ⟨_, ho, rfl⟩ (typeIs_str s z u) (by decide) PySem.F.sub_str_dict PySem.F.slot_dict_eq PySem.F.slot_str_eq_refl
    (fun Q' hq => dict_declines ⟨_, ho, rfl⟩ Q' hq)
    (fun _ hq => call_meets PySem.F.slot_str_eq_refl (typeIs_str s z u) PySem.F.entry_str_eq (PySem.F.args_str_eq_2 _ _) (str_dict_declines z u l _ es ep dd sl) ⟨ho, hq⟩)
    (fun _ hq => wpAny_of_eq (rfl : isSame (.ref l) (.str z u) = pure false) hq) (.inr hu) h
theorem rc_str_dict {es : Array DictEntry} {ep : Nat} (z : Str) (u : Tok) (ho : s.heap.get? l = some o) (ex : o.ExactDict) (hd : o.data = .dict es ep) (hu : A.units < cLine) : SeqAt.RcAt A s (.str z u) (.ref l) false := fun P w E Q h => by
  obtain ⟨cls, dd, data, sl⟩ := o
  obtain ⟨hc, _, _⟩ := ex
  simp only at hc hd
  subst hc hd
  exact SeqAt.rc_eq_decline_or (k := false) (typeIs_str s z u) ⟨_, ho, rfl⟩ (by decide) PySem.F.sub_dict_str PySem.F.slot_str_eq PySem.F.slot_dict_eq_refl
    (fun _ hq => call_meets PySem.F.slot_str_eq (typeIs_str s z u) PySem.F.entry_str_eq (PySem.F.args_str_eq_2 _ _) (str_dict_declines z u l _ es ep dd sl) ⟨ho, hq⟩)
    (fun Q' hq => dict_declines ⟨_, ho, rfl⟩ Q' hq)
    (fun _ hq => wpAny_of_eq (rfl : isSame (.str z u) (.ref l) = pure false) hq) (.inr hu) h
theorem eq_str_dict {es : Array DictEntry} {ep : Nat} (z : Str) (u : Tok) (ho : s.heap.get? l = some o) (ex : o.ExactDict) (hd : o.data = .dict es ep) (hu : A.units < cLine) : SeqAt.EqAt A s (.str z u) (.ref l) false := fun P w E Q h => by
  unfold eqBool
  refine wpAny_holding (wpAny_ite_split (fun hab => absurd (eq_of_beq hab) nofun) (fun _ => ?_))
  exact wpAny_bind (rc_str_dict z u ho ex hd hu P w E _ (wpAny_truthy_bool h))
end
def isS : PyData → Str → Bool
  | .str x, z => decide (x = z)
  | _, _ => false
section
variable {X : Cx} {pins : List (Addr × Obj)} {σ : L2.St} {H : Hp} {s : Shared}
theorem beqStr (a b : Str) : (a == b) = decide (a = b) := by
  rw [Bool.eq_iff_iff, beq_iff_eq, decide_eq_true_iff]
theorem dv_rc {A : Around} (I : Inv X pins σ H s) (hu : A.units + 64 < cLine) {v : V} {u : Value} {d : PyData} (h : Dv X.K H v d) (r : RelV v u) (z : Str) (t : Tok) : SeqAt.RcAt A s u (.str z t) (isS d z) := by
  have hu1 : A.units < cLine := by omega
  cases h with
  | non => cases r; exact SeqAt.RcAt.none_str z t
  | bl b => cases r; exact SeqAt.RcAt.bool_str b z t
  | int i => obtain ⟨t', rfl⟩ := r; exact SeqAt.RcAt.int_str i t' z t
  | str x =>
    obtain ⟨t', rfl⟩ := r
    have := SeqAt.RcAt.str_str (A := A) (s := s) x t' z t
    rw [beqStr] at this
    exact this
  | lst hs ha =>
    cases r
    obtain ⟨its, rv, pl, _⟩ := I.list hs
    exact SeqAt.RcAt.list_str z t pl.isList hu1
  | tup hs ha =>
    cases r
    obtain ⟨its, rv, pl, _⟩ := I.tuple hs
    exact SeqAt.RcAt.tuple_str z t pl hu1
  | dic hs he ha =>
    cases r
    obtain ⟨_, hy, vs, kv, ⟨o, es, ep, ho, ex, hd, _, pr, _⟩⟩ := dk_of I.hok hs
    exact rc_dict_str z t ho ex hd hu1
theorem dv_eq {A : Around} (I : Inv X pins σ H s) (hu : A.units + 64 < cLine) {v : V} {u : Value} {d : PyData} (h : Dv X.K H v d) (r : RelV v u) (z : Str) (t : Tok) : SeqAt.EqAt A s (.str z t) u (isS d z) := by
  have hu1 : A.units < cLine := by omega
  cases h with
  | non => cases r; exact SeqAt.EqAt.str_none z t
  | bl b => cases r; exact SeqAt.EqAt.str_bool z t b
  | int i => obtain ⟨t', rfl⟩ := r; exact SeqAt.EqAt.str_int z t i t'
  | str x =>
    obtain ⟨t', rfl⟩ := r
    have := SeqAt.EqAt.str_str (A := A) (s := s) z t x t'
    rw [beqStr] at this
    have e : isS (.str x) z = decide (z = x) := decide_eq_decide.mpr ⟨Eq.symm, Eq.symm⟩
    rw [e]
    exact this
  | lst hs ha =>
    cases r
    obtain ⟨its, rv, pl, _⟩ := I.list hs
    exact SeqAt.EqAt.str_list z t pl.isList hu1
  | tup hs ha =>
    cases r
    obtain ⟨its, rv, pl, _⟩ := I.tuple hs
    exact SeqAt.EqAt.str_tuple z t pl hu1
  | dic hs he ha =>
    cases r
    obtain ⟨_, hy, vs, kv, ⟨o, es, ep, ho, ex, hd, _, pr, _⟩⟩ := dk_of I.hok hs
    exact eq_str_dict z t ho ex hd hu1
end
def rEqV (K : PySem.W.Frag) : R2 := fun x y H Q => ∃ d z, Dv K H x d ∧ y = .str z ∧ Q (.bl (isS d z)) H
theorem op_eqV {X : Cx} (hu : X.A.units + 64 < cLine) : OpR X (compareOp .Eq) (rEqV X.K) := by
  intro pins s σ H x y v u Q I rx ry h
  obtain ⟨d, z, hd, rfl, q⟩ := h
  obtain ⟨t, rfl⟩ := ry
  exact dv_rc I hu hd rx z t X.prog X.w _ _ ⟨.bl _, H, I, rfl, q⟩
/-- x in a tuple of texts -/
def rInV (K : PySem.W.Frag) : R2 := fun x y H Q => ∃ (d : PyData) (p : Addr) (zs : List Str), Dv K H x d ∧ y = .ref p ∧ SqT K H p (zs.map V.str) ∧ Q (.bl (zs.any fun z => isS d z)) H
theorem strs_any {d : PyData} : ∀ {zs : List Str} {us : List Value}, Vals (zs.map V.str) us → us.any (fun u => match u with | .str z _ => isS d z | _ => false) = zs.any fun z => isS d z
  | [], _, h => by cases h; rfl
  | z :: zs, _, h => by
    cases h with
    | cons r t =>
      obtain ⟨k, rfl⟩ := r
      rw [List.any_cons, List.any_cons, strs_any t]
theorem strs_mem : ∀ {zs : List Str} {us : List Value}, Vals (zs.map V.str) us → ∀ u ∈ us, ∃ z t, u = .str z t
  | [], _, h, u, hu => by cases h; cases hu
  | z :: zs, _, h, u, hu => by
    cases h with
    | cons r t =>
      rcases List.mem_cons.mp hu with rfl | hu
      · obtain ⟨k, rfl⟩ := r; exact ⟨z, k, rfl⟩
      · exact strs_mem t u hu
theorem op_inV {X : Cx} (hu : X.A.units + 65 < cLine) : OpR X (compareOp .In) (rInV X.K) := by
  intro pins s σ H x y v u Q I rx ry h
  obtain ⟨d, p, zs, hd, rfl, hp, q⟩ := h
  cases ry
  obtain ⟨its, r, pl, hz⟩ := I.tuple hp
  refine SeqAt.in_tupleAt (fun u => match u with | .str z _ => isS d z | _ => false) pl (fun w hw => ?_) ⟨.bl _, H, I, rfl, ?_⟩
  · obtain ⟨z, t, rfl⟩ := strs_mem r w (by simpa using hw)
    exact dv_eq I (by show X.A.units + 1 + 64 < cLine; omega) hd rx z t
  · rw [show its.toArray.any (fun u => match u with | .str z _ => isS d z | _ => false) = its.any (fun u => match u with | .str z _ => isS d z | _ => false) by simp, strs_any r]
    exact q
/-- a tuple and the empty one -/
def rEqE (K : PySem.W.Frag) : R2 := fun x y H Q => ∃ a b xs, x = .ref a ∧ y = .ref b ∧ SqT K H a xs ∧ SqT K H b [] ∧ Q (.bl xs.isEmpty) H
theorem op_eqE {X : Cx} (hu : X.A.units + 64 < cLine) : OpR X (compareOp .Eq) (rEqE X.K) := by
  intro pins s σ H x y v u Q I rx ry h
  obtain ⟨a, b, xs, rfl, rfl, ha, hb, q⟩ := h
  cases rx
  cases ry
  obtain ⟨its, r1, p1, _⟩ := I.tuple ha
  obtain ⟨its2, r2, p2, _⟩ := I.tuple hb
  cases r2
  have hl := r1.length
  refine SeqAt.RcAt.tuples (A := X.A) (e := fun _ => true) p1 p2 (by omega) (fun j _ h2 => absurd h2 (by simp)) X.prog X.w _ _ ⟨.bl xs.isEmpty, H, I, ?_, q⟩
  show Value.bool _ = Value.bool _
  congr 1
  cases xs with
  | nil => cases r1; rfl
  | cons _ _ => cases r1; simp
end Fld
/-! t[::-1] -/
namespace Fld
open PySem PySem.Spec PyProof.Rows L2
section
variable {prog : Program} {w : World} {A : Around} {E : Value → Shared → Prop} {s : Shared}
theorem adj_back (n : Nat) : Builtin.Slice.sliceAdjust none none (-1) (n : Int) = ((n : Int) - 1, -1) := by
  unfold Builtin.Slice.sliceAdjust
  simp
theorem places_back (n : Nat) : Builtin.Slice.slicePlaces ((n : Int) - 1) (-1) (-1) = n := by
  unfold Builtin.Slice.slicePlaces
  simp
  try omega
theorem applied_back {sl : Addr} {t : Tok} {n : Nat} {Q : Int × Int × Nat → Shared → Prop} (hs : s.heap.IsSliceOf sl .none .none (.int (-1) t))
    (h : Q ((n : Int) - 1, -1, n) s) : wpAny (model prog w) A (Builtin.Slice.sliceApplied (.ref sl) (pure (n : Int))) Q E s := by
  obtain ⟨os, hos, hcs, hds⟩ := id hs
  unfold Builtin.Slice.sliceApplied Builtin.Slice.sliceFields
  refine wpAny_bind (wpAny_bind (wpAny_field hos hds (x := .none) rfl (wpAny_bind (wpAny_field hos hds (x := .none) rfl (wpAny_bind (wpAny_field hos hds (x := .int (-1) t) rfl (wpAny_pure ?_)))))))
  refine wpAny_bind (HT.slicePart_ (.int (-1) t) ?_)
  show wpAny _ _ (if ((-1 : Int) == 0) = true then _ else _) _ _ s
  rw [if_neg (by decide)]
  refine wpAny_bind (HT.slicePart_ .none (wpAny_bind (HT.slicePart_ .none (wpAny_bind (wpAny_pure ?_)))))
  show wpAny _ _ (match Builtin.Slice.sliceAdjust none none (-1) (n : Int) with | (lo, hi) => pure (lo, (-1 : Int), Builtin.Slice.slicePlaces lo hi (-1))) _ _ s
  rw [adj_back n]
  show wpAny _ _ (pure ((n : Int) - 1, (-1 : Int), Builtin.Slice.slicePlaces ((n : Int) - 1) (-1) (-1))) _ _ s
  rw [places_back]
  exact wpAny_pure h
end
end Fld
namespace Fld
open PySem PySem.Spec PyProof.Rows L2
section
variable {prog : Program} {w : World} {A : Around} {E : Value → Shared → Prop} {s : Shared}
theorem filt_congr {α β : Type} {f g : α → Option β} : ∀ {l : List α}, (∀ x ∈ l, f x = g x) → l.filterMap f = l.filterMap g
  | [], _ => rfl
  | x :: l, h => by
    rw [List.filterMap_cons, List.filterMap_cons, h x (List.mem_cons_self ..), filt_congr fun y hy => h y (List.mem_cons_of_mem _ hy)]
theorem pick_back (xs : List Value) : ((List.range xs.length).filterMap fun (m : Nat) => xs.toArray[(((xs.length : Int) - 1) + (m : Int) * (-1)).toNat]?).toArray = xs.reverse.toArray := by
  congr 1
  have e : ∀ m ∈ List.range xs.length, xs.toArray[(((xs.length : Int) - 1) + (m : Int) * (-1)).toNat]? = some (xs.reverse.getD m .none) := by
    intro m hm
    have hm' := List.mem_range.mp hm
    have e1 : (((xs.length : Int) - 1) + (m : Int) * (-1)).toNat = xs.length - 1 - m := by omega
    rw [e1, List.getElem?_toArray, List.getD_eq_getElem?_getD, List.getElem?_reverse hm', List.getElem?_eq_getElem (by omega)]
    rfl
  rw [filt_congr e]
  have e2 : (List.range xs.length).filterMap (fun m => some (xs.reverse.getD m Value.none)) = (List.range xs.length).map fun m => xs.reverse.getD m Value.none := by
    rw [← List.filterMap_eq_map]; rfl
  rw [e2]
  have := range_map xs.reverse (fun c => c) Value.none
  rw [List.length_reverse, List.map_id'] at this
  exact this
theorem getItem_back {t sl : Addr} {xs : List Value} {tk : Tok} {Q : Value → Shared → Prop} (ht : IsTup s.heap t xs.toArray) (hs : s.heap.IsSliceOf sl .none .none (.int (-1) tk))
    (h : Q (.ref s.heap.objs.size) { s with heap := s.heap.push { cls := .type "tuple", data := .seq xs.reverse.toArray } }) (hsz : xs.length ≤ sizeLine) : wpAny (model prog w) A (getItem (.ref t) (.ref sl)) Q E s := by
  have fits : sizeOk (.seq xs.reverse.toArray) := by
    show xs.reverse.toArray.size ≤ sizeLine
    rw [List.size_toArray, List.length_reverse]
    exact hsz
  obtain ⟨os, hos, hcs, hds⟩ := id hs
  have hTs : s.TypeIs (.ref sl) "slice" := ⟨os, hos, hcs⟩
  unfold getItem
  try with_reducible refine wpAny_holding ?_
  first | refine wpAny_bind (wpAny_pure ?_) | skip
  refine wpAny_bind (wpAny_sequenceKey ht.typeIs (by decide) ?_)
  refine wpAny_bind (wpAny_callSpecial?_slot (name := Str.ofString "__getitem__") ht.typeIs PyProof.Rows.slot_tuple_getitem
    (wpAny_call_entry PyProof.Rows.slot_tuple_getitem ht.typeIs entry_tuple_getitem ?_ (args_tuple_getitem _ _)))
  show wpAny _ _ (Builtin.Tuple.tupleItemsOf (.ref t) >>= _) _ _ s
  refine wpAny_bind (tupleItemsOf_ ht ?_)
  refine wpAny_bind (wpAny_typeOf hTs ?_)
  rw [if_pos (by decide)]
  rw [List.size_toArray]
  refine wpAny_bind (applied_back hs ?_)
  have no : ¬ ((((xs.length : Int) - 1) == 0 && (-1 : Int) == 1 && xs.length == xs.length) = true) := by
    rw [show ((-1 : Int) == 1) = false from rfl, Bool.and_false, Bool.false_and]
    exact Bool.false_ne_true
  show wpAny _ _ (if ((((xs.length : Int) - 1) == 0 && (-1 : Int) == 1 && xs.length == xs.length) = true) then _ else _) _ _ s
  rw [if_neg no, pick_back]
  first
    | exact wpAny_bind (m := Builtin.Tuple.tupleExact _) (wpAny_newObj_type (wpAny_pure ⟨_, rfl, wpAny_pure h⟩) fits)
    | exact wpAny_bind (m := Builtin.Tuple.tupleExact _) (wpAny_newObj_type (wpAny_bind (wpAny_pure (wpAny_pure ⟨_, rfl, wpAny_pure h⟩))) fits)
    | exact wpAny_bind (wpAny_bind (m := Builtin.Tuple.tupleExact _) (wpAny_newObj_type (wpAny_pure (wpAny_pure ⟨_, rfl, wpAny_pure h⟩)) fits))
    | exact wpAny_bind (wpAny_bind (m := Builtin.Tuple.tupleExact _) (wpAny_newObj_type (wpAny_pure ⟨_, rfl, wpAny_pure h⟩) fits))
end
def tRevT (K : PySem.W.Frag) (te : TE) : TE := fun σ H Q => te σ H fun x H1 => ∃ a xs, x = .ref a ∧ SqT K H1 a xs ∧ ∀ p, H1 p = none → Q (.ref p) (upd H1 p (.tup xs.reverse))
theorem pe_revT {X : Cx} {e : Expr} {te : TE} {k : Nat} {p1 p2 p3 pos : Pos} (he : PE X e te) : PE X (.Subscript e (.Slice none none (some (.UnaryOp .USub (.Constant (.int 1) k p1) p2)) p3) pos) (tRevT X.K te) := by
  refine ⟨fun pins s σ H Q I h => Subscript_ (thn (he.run pins s σ H _ I h) fun v s1 ⟨x, H1, I1, r1, q1⟩ => ?_)⟩
  obtain ⟨a, xs, ex, hx, q⟩ := q1
  subst ex
  cases r1
  have third : PO X (some (.UnaryOp .USub (.Constant (.int 1) k p1) p2)) (tPart (tUn (rU fun i => .int (-i)) (tC (.int 1)))) := po_some (pe_un un_neg pe_int)
  refine wpAny_Slice (thn (po_none.run pins s1 σ H1 (fun o H2 => o = none ∧ H2 = H1) I1 ⟨rfl, rfl⟩) fun vl s2 ⟨l, H2, I2, pl, el, e2⟩ => ?_)
  subst el e2
  refine thn (po_none.run pins s2 σ H2 (fun o H3 => o = none ∧ H3 = H2) I2 ⟨rfl, rfl⟩) fun vu s3 ⟨m, H3, I3, pu, em, e3⟩ => ?_
  subst em e3
  refine thn (third.run pins s3 σ H3 (fun o H4 => o = some (-1) ∧ H4 = H3) I3 ⟨1, rfl, -1, rfl, rfl, rfl⟩) fun vs s4 ⟨o, H4, I4, ps, eo, e4⟩ => ?_
  subst eo e4
  cases pl
  cases pu
  obtain ⟨tk, rfl⟩ : ∃ tk, vs = .int (-1) tk := by cases ps with | int _ tk => exact ⟨tk, rfl⟩
  have I5 : Inv X pins σ H4 { s4 with heap := s4.heap.push { cls := .type "slice", data := .fields #[.none, .none, .int (-1) tk] } } := I4.kept (t' := s4.toks) fun b ob q => Heap.get?_push_of_some _ q
  obtain ⟨its, r, ht, hz⟩ := I5.tuple hx
  have hlen := r.length
  show wpAny (model X.prog X.w) X.A (subscriptTail e (.Slice none none (some (.UnaryOp .USub (.Constant (.int 1) k p1) p2)) p3) (.ref a) (.ref s4.heap.objs.size)) (EP X pins σ Q) X.xe { s4 with heap := s4.heap.push { cls := .type "slice", data := .fields #[.none, .none, .int (-1) tk] } }
  refine tail_any (ops := [.ref a, .ref s4.heap.objs.size]) ht.typeIs PyProof.Rows.slot_tuple_getitem.lookup ?_ (by with_unfolding_all rfl)
  refine getItem_back ht (Heap.IsSliceOf.new _ .none .none (.int (-1) tk)) ?_ (by omega)
  refine ⟨.ref _, _, I5.laid (t' := s4.toks) (o := .tup xs.reverse) (fun b ob q => Heap.get?_push_of_some _ q) (Nat.le_refl _) ?_, rfl, q _ (I5.hok.fresh (Nat.le_refl _))⟩
  exact ⟨by rw [List.length_reverse]; exact hz, _, r.reverse, IsTup.new _ _⟩
end Fld
namespace Fld
open PySem PySem.Spec PyProof.Rows L2
def sp_law_draw_ins : Sp := fun vs H Q _ => ∃ (p c : Addr) (n : Nat), vs = [.ref p] ∧ Pen H p c n ∧ n ≤ 700000 ∧ ∀ (a : Addr) (i : Ins) H', H' a = some (.tup i.vs) → i.Ok → Drew p c H H' (n + 200) → Q (.ref a) H'
def sp_law_draw_ans : Sp := fun vs H Q _ => ∃ (p c : Addr) (n : Nat), vs = [.ref p] ∧ Pen H p c n ∧ n ≤ 700000 ∧ ∀ (a : Addr) (i : Ans) H', H' a = some (.tup i.vs) → i.Ok → Drew p c H H' (n + 200) → Q (.ref a) H'
/-! ### what is written is read again -/
theorem takeRest_oct (most : Int) : ∀ (r : Nat) (l : List Int) (k : Nat) (z w : Int), 1 ≤ w → 0 ≤ z → z + (r : Int) * w ≤ most → (0 < r ∨ w = 1) → takeRest most (restOct r ++ l) k z w = .ok (z + (r : Int) * w, k + (restOct r).length) := by
  intro r
  induction r using Nat.strongRecOn with
  | _ r ih =>
    intro l k z w hw hz hm h0
    by_cases h : r < 128
    · rw [restOct_lt h]
      show takeRest most ((r : Int) :: l) k z w = _
      rw [takeRest, if_neg (by omega), if_pos ⟨hm, by omega⟩]
      rfl
    · rw [restOct_ge h]
      show takeRest most ((128 + (r : Int) % 128) :: (restOct (r / 128) ++ l)) k z w = _
      have e0 : (128 + (r : Int) % 128 - 128) * w = ((r : Int) % 128) * w := by rw [show 128 + (r : Int) % 128 - 128 = (r : Int) % 128 by omega]
      have e1 : (r : Int) = ((r : Int) % 128) + 128 * ((r / 128 : Nat) : Int) := by omega
      have e2 : (r : Int) * w = ((r : Int) % 128) * w + ((r / 128 : Nat) : Int) * (w * 128) := by
        conv => lhs; rw [e1]
        rw [Int.add_mul, Int.mul_comm 128, Int.mul_assoc, Int.mul_comm 128 w]
      have p1 : 0 ≤ ((r : Int) % 128) * w := Int.mul_nonneg (by omega) (by omega)
      have q1 : 1 ≤ r / 128 := by omega
      have p2 : (w * 128) ≤ ((r / 128 : Nat) : Int) * (w * 128) := by
        have := Int.mul_le_mul_of_nonneg_right (show (1 : Int) ≤ ((r / 128 : Nat) : Int) by omega) (show 0 ≤ w * 128 by omega)
        omega
      rw [takeRest, if_pos (by omega), if_pos (by rw [e0]; omega), e0]
      rw [ih (r / 128) (by omega) l (k + 1) _ _ (by omega) (by omega) (by omega) (.inl (by omega))]
      rw [List.length_cons]
      refine congrArg Except.ok (Prod.ext ?_ ?_)
      · show z + ((r : Int) % 128) * w + ((r / 128 : Nat) : Int) * (w * 128) = z + (r : Int) * w
        rw [e2]; omega
      · show k + 1 + (restOct (r / 128)).length = k + ((restOct (r / 128)).length + 1)
        omega
theorem takeNum_oct (n b m : Nat) (least most : Int) (pre l : List Int) (h1 : least ≤ n) (h2 : (n : Int) ≤ most) (hl : 0 ≤ least) : least ≤ min ((2 ^ b - 1 : Nat) : Int) most →
    takeNum (pre ++ (numOct n b m ++ l)) b m least most pre.length = .ok ((n : Int), pre.length + (numOct n b m).length) := by
  intro hlm
  unfold takeNum numOct
  by_cases h : n < 2 ^ b - 1
  · rw [if_pos h]
    rw [List.getElem?_append_right (Nat.le_refl _), Nat.sub_self]
    show (if _ then _ else _) = _
    have e : ((m + n : Nat) : Int) - (m : Int) = (n : Int) := by omega
    dsimp only [List.cons_append, List.getElem?_cons_zero]
    rw [e, if_pos ⟨h1, by omega⟩, if_pos (by omega)]
    rfl
  · rw [if_neg h]
    rw [List.getElem?_append_right (Nat.le_refl _), Nat.sub_self]
    dsimp only [List.cons_append, List.getElem?_cons_zero]
    have e : ((m + (2 ^ b - 1) : Nat) : Int) - (m : Int) = ((2 ^ b - 1 : Nat) : Int) := by omega
    rw [e, if_pos ⟨by omega, by omega⟩, if_neg (by omega)]
    have hd : (pre ++ ((m + (2 ^ b - 1) : Nat) : Int) :: (restOct (n - (2 ^ b - 1)) ++ l)).drop (pre.length + 1) = restOct (n - (2 ^ b - 1)) ++ l := by
      rw [List.drop_append]
      simp
    rw [hd, takeRest_oct _ _ _ _ _ _ (by decide) (by decide) (by omega) (.inr rfl)]
    have hpn := pow_pos2 b
    refine congrArg Except.ok (Prod.ext ?_ ?_)
    · show ((2 ^ b - 1 : Nat) : Int) + (0 + ((n - (2 ^ b - 1) : Nat) : Int) * 1) = (n : Int)
      omega
    · show pre.length + 1 + (restOct (n - (2 ^ b - 1))).length = pre.length + ((restOct (n - (2 ^ b - 1))).length + 1)
      omega
theorem takeChars_oct : ∀ (cs : List Nat) (l : List Int) (k : Nat), cs.all isChar = true → takeChars cs.length ((cs.map fun (c : Nat) => (c : Int)) ++ l) k = .ok (cs, k + cs.length)
  | [], l, k, _ => rfl
  | c :: cs, l, k, h => by
    rw [List.all_cons, Bool.and_eq_true] at h
    show takeChars (cs.length + 1) ((c : Int) :: (cs.map (fun (c : Nat) => (c : Int)) ++ l)) k = _
    rw [takeChars, Int.toNat_natCast, if_pos h.1, takeChars_oct cs l (k + 1) h.2]
    refine congrArg Except.ok (Prod.ext rfl ?_)
    show k + 1 + cs.length = k + (cs.length + 1)
    omega
theorem takeStr_oct (x : Str) (b m : Nat) (least most : Int) (pre l : List Int) (hx : x.cps.toList.all isChar = true) (h1 : least ≤ x.length) (h2 : (x.length : Int) ≤ most) (hl : 0 ≤ least) (hlm : least ≤ min ((2 ^ b - 1 : Nat) : Int) most) :
    takeStr (pre ++ (strOct x b m ++ l)) b m least most pre.length = .ok (x, pre.length + (strOct x b m).length) := by
  unfold takeStr strOct
  rw [List.append_assoc, takeNum_oct x.length b m least most pre _ h1 h2 hl hlm]
  dsimp only
  rw [Int.toNat_natCast]
  have hd : (pre ++ (numOct x.length b m ++ (x.cps.toList.map (fun (c : Nat) => (c : Int)) ++ l))).drop (pre.length + (numOct x.length b m).length) = x.cps.toList.map (fun (c : Nat) => (c : Int)) ++ l := by
    rw [← List.append_assoc, List.drop_append, ← List.length_append]
    simp
  rw [hd, str_len, takeChars_oct _ _ _ hx]
  refine congrArg Except.ok (Prod.ext rfl ?_)
  show pre.length + (numOct x.length b m).length + x.cps.toList.length = pre.length + (numOct x.length b m ++ x.cps.toList.map fun (c : Nat) => (c : Int)).length
  rw [List.length_append, List.length_map]
  omega
theorem numOct_head (n b m : Nat) : ∃ (o : Int) (l : List Int), numOct n b m = o :: l ∧ (m : Int) ≤ o ∧ o ≤ m + ((2 ^ b - 1 : Nat) : Int) := by
  unfold numOct
  have := pow_pos2 b
  by_cases h : n < 2 ^ b - 1
  · rw [if_pos h]; exact ⟨_, _, rfl, by omega, by omega⟩
  · rw [if_neg h]; exact ⟨_, _, rfl, by omega, by omega⟩
theorem strOct_head (x : Str) (b m : Nat) : ∃ (o : Int) (l : List Int), strOct x b m = o :: l ∧ (m : Int) ≤ o ∧ o ≤ m + ((2 ^ b - 1 : Nat) : Int) := by
  obtain ⟨o, l, e, h⟩ := numOct_head x.length b m
  refine ⟨o, l ++ x.cps.toList.map fun (c : Nat) => (c : Int), ?_, h⟩
  unfold strOct
  rw [e]
  rfl
theorem takeNum0 (n b m : Nat) (least most : Int) (l : List Int) (h1 : least ≤ n) (h2 : (n : Int) ≤ most) (hl : 0 ≤ least) (hlm : least ≤ min ((2 ^ b - 1 : Nat) : Int) most) : takeNum (numOct n b m ++ l) b m least most 0 = .ok ((n : Int), (numOct n b m).length) := by
  have := takeNum_oct n b m least most [] l h1 h2 hl hlm
  rw [List.nil_append, List.length_nil, Nat.zero_add] at this
  exact this
theorem takeStr0 (x : Str) (b m : Nat) (least most : Int) (l : List Int) (hx : x.cps.toList.all isChar = true) (h1 : least ≤ x.length) (h2 : (x.length : Int) ≤ most) (hl : 0 ≤ least) (hlm : least ≤ min ((2 ^ b - 1 : Nat) : Int) most) : takeStr (strOct x b m ++ l) b m least most 0 = .ok (x, (strOct x b m).length) := by
  have := takeStr_oct x b m least most [] l hx h1 h2 hl hlm
  rw [List.nil_append, List.length_nil, Nat.zero_add] at this
  exact this
theorem takeStrE (x : Str) (pre : List Int) (hx : txt (.str x) 0 40 = true) : takeStr (pre ++ strOct x 7 0) 7 0 0 40 pre.length = .ok (x, (pre ++ strOct x 7 0).length) := by
  have h40 := txt_len hx
  have := takeStr_oct x 7 0 0 40 pre [] (txt_all hx) (by omega) (by omega) (by decide) (by decide)
  rw [List.append_nil] at this
  rw [this, List.length_append]
theorem src_fixed (n : Nat) (l : List Int) (h : n ≤ 9999) : takeSrc (numOct n 6 192 ++ l) 0 = .ok (.inr (true, n), (numOct n 6 192).length) := by
  obtain ⟨o, l', e, h1, h2⟩ := numOct_head n 6 192
  have h0 : (numOct n 6 192 ++ l)[0]? = some o := by rw [e]; rfl
  unfold takeSrc
  rw [h0]
  dsimp only
  rw [if_pos (by omega), takeNum0 n 6 192 0 9999 l (by omega) (by omega) (by decide) (by decide)]
  show Except.ok (Sum.inr (true, ((n : Nat) : Int).toNat), _) = _
  rw [Int.toNat_natCast]
theorem src_entry (n : Nat) (l : List Int) (h : n ≤ 9999) : takeSrc (numOct n 6 128 ++ l) 0 = .ok (.inr (false, n), (numOct n 6 128).length) := by
  obtain ⟨o, l', e, h1, h2⟩ := numOct_head n 6 128
  have h3 : ((2 ^ 6 - 1 : Nat) : Int) = 63 := rfl
  have h0 : (numOct n 6 128 ++ l)[0]? = some o := by rw [e]; rfl
  unfold takeSrc
  rw [h0]
  dsimp only
  rw [if_neg (by omega), if_pos (by omega), takeNum0 n 6 128 0 9999 l (by omega) (by omega) (by decide) (by decide)]
  show Except.ok (Sum.inr (false, ((n : Nat) : Int).toNat), _) = _
  rw [Int.toNat_natCast]
theorem src_new (y : Str) (l : List Int) (h : txt (.str y) 1 20 = true) : takeSrc (strOct y 5 64 ++ l) 0 = .ok (.inl y, (strOct y 5 64).length) := by
  obtain ⟨o, l', e, h1, h2⟩ := strOct_head y 5 64
  have h3 : ((2 ^ 5 - 1 : Nat) : Int) = 31 := rfl
  have h20 := txt_len20 h
  have h0 : (strOct y 5 64 ++ l)[0]? = some o := by rw [e]; rfl
  unfold takeSrc
  rw [h0]
  dsimp only
  rw [if_neg (by omega), if_neg (by omega), takeStr0 y 5 64 1 20 l (txt_all h) (by omega) (by omega) (by decide) (by decide)]
  rfl
theorem ins_src (os : List Int) (k : Nat) (s : Str ⊕ Bool × Nat) (x : Str) (n : Nat) (o : Int) (h0 : os[0]? = some o) (ho : 64 ≤ o) (h1 : takeSrc os 0 = .ok (s, k)) (h2 : takeStr os 7 0 0 40 k = .ok (x, n)) : takeIns os 0 = .ok (srcIns x s, n) := by
  unfold takeIns
  rw [h0]
  dsimp only
  rw [if_neg (by omega), if_neg (by omega), h1]
  dsimp only
  rw [h2]
  rfl
theorem whole_of {α : Type} {os : List Int} {f : List Int → Nat → Except Nat (α × Nat)} {x : α} (h : f os 0 = .ok (x, os.length)) : whole os f = .ok x := by
  unfold whole
  rw [h]
  exact if_pos rfl
theorem whole_ins (i : Ins) (ok : i.Ok) : whole i.oct takeIns = .ok i := by
  refine whole_of ?_
  cases i with
  | again n =>
    have hn : n ≤ 9999 := ok
    obtain ⟨o, l', e, h1, h2⟩ := numOct_head n 5 0
    have h3 : ((2 ^ 5 - 1 : Nat) : Int) = 31 := rfl
    have h0 : (numOct n 5 0)[0]? = some o := by rw [e]; rfl
    have ht := takeNum0 n 5 0 0 9999 [] (by omega) (by omega) (by decide) (by decide)
    rw [List.append_nil] at ht
    show takeIns (numOct n 5 0) 0 = _
    unfold takeIns
    rw [h0]
    dsimp only
    rw [if_pos (by omega), ht]
    show Except.ok (Ins.again ((n : Nat) : Int).toNat, _) = _
    rw [Int.toNat_natCast]
    rfl
  | limit n =>
    have hn : n ≤ 9999 := ok
    obtain ⟨o, l', e, h1, h2⟩ := numOct_head n 5 32
    have h3 : ((2 ^ 5 - 1 : Nat) : Int) = 31 := rfl
    have h0 : (numOct n 5 32)[0]? = some o := by rw [e]; rfl
    have ht := takeNum0 n 5 32 0 9999 [] (by omega) (by omega) (by decide) (by decide)
    rw [List.append_nil] at ht
    show takeIns (numOct n 5 32) 0 = _
    unfold takeIns
    rw [h0]
    dsimp only
    rw [if_neg (by omega), if_pos (by omega), ht]
    show Except.ok (Ins.limit ((n : Nat) : Int).toNat, _) = _
    rw [Int.toNat_natCast]
    rfl
  | fixed n x =>
    obtain ⟨o, l', e, h1, h2⟩ := numOct_head n 6 192
    exact ins_src _ _ (.inr (true, n)) x _ o (by show (numOct n 6 192 ++ strOct x 7 0)[0]? = _; rw [e]; rfl) (by omega) (src_fixed n _ ok.1) (takeStrE x _ ok.2)
  | entry n x =>
    obtain ⟨o, l', e, h1, h2⟩ := numOct_head n 6 128
    exact ins_src _ _ (.inr (false, n)) x _ o (by show (numOct n 6 128 ++ strOct x 7 0)[0]? = _; rw [e]; rfl) (by omega) (src_entry n _ ok.1) (takeStrE x _ ok.2)
  | new y x =>
    obtain ⟨o, l', e, h1, h2⟩ := strOct_head y 5 64
    exact ins_src _ _ (.inl y) x _ o (by show (strOct y 5 64 ++ strOct x 7 0)[0]? = _; rw [e]; rfl) (by omega) (src_new y _ ok.1) (takeStrE x _ ok.2)
theorem whole_ans (i : Ans) (ok : i.Ok) : whole i.oct takeAns = .ok i := by
  refine whole_of ?_
  have h63 : ((2 ^ 6 - 1 : Nat) : Int) = 63 := rfl
  have h127 : ((2 ^ 7 - 1 : Nat) : Int) = 127 := rfl
  cases i with
  | done n =>
    have hn : n ≤ 20 := ok
    obtain ⟨o, l', e, h1, h2⟩ := numOct_head n 7 128
    have h0 : (numOct n 7 128)[0]? = some o := by rw [e]; rfl
    have ht := takeNum0 n 7 128 0 20 [] (by omega) (by omega) (by decide) (by decide)
    rw [List.append_nil] at ht
    show takeAns (numOct n 7 128) 0 = _
    unfold takeAns
    rw [h0]
    dsimp only
    rw [if_pos (by omega), ht]
    show Except.ok (Ans.done ((n : Nat) : Int).toNat, _) = _
    rw [Int.toNat_natCast]
    rfl
  | cancelled n =>
    have hn : n ≤ 20 := ok
    obtain ⟨o, l', e, h1, h2⟩ := numOct_head n 6 64
    have h0 : (numOct n 6 64)[0]? = some o := by rw [e]; rfl
    have ht := takeNum0 n 6 64 0 20 [] (by omega) (by omega) (by decide) (by decide)
    rw [List.append_nil] at ht
    show takeAns (numOct n 6 64) 0 = _
    unfold takeAns
    rw [h0]
    dsimp only
    rw [if_neg (by omega), if_pos (by omega), ht]
    show Except.ok (Ans.cancelled ((n : Nat) : Int).toNat, _) = _
    rw [Int.toNat_natCast]
    rfl
  | received n =>
    have hn := ok.1
    have hn2 := ok.2
    obtain ⟨o, l', e, h1, h2⟩ := numOct_head n 6 0
    have h0 : (numOct n 6 0)[0]? = some o := by rw [e]; rfl
    have ht := takeNum0 n 6 0 1 9999 [] (by omega) (by omega) (by decide) (by decide)
    rw [List.append_nil] at ht
    show takeAns (numOct n 6 0) 0 = _
    unfold takeAns
    rw [h0]
    dsimp only
    rw [if_neg (by omega), if_neg (by omega), ht]
    show Except.ok (Ans.received ((n : Nat) : Int).toNat, _) = _
    rw [Int.toNat_natCast]
    rfl
end Fld
/-! instructions and answers as data -/
namespace Fld
open PySem PySem.Spec PyProof.Rows L2
def Ins.dat : Ins → PyData
  | .again n => .tuple [.str "again", .int n]
  | .limit n => .tuple [.str "limit", .int n]
  | .fixed n x => .tuple [.str "fixed", .int n, .str x]
  | .entry n x => .tuple [.str "entry", .int n, .str x]
  | .new y x => .tuple [.str "new", .str y, .str x]
def Ans.dat : Ans → PyData
  | .done n => .tuple [.str "done", .int n]
  | .cancelled n => .tuple [.str "cancelled", .int n]
  | .received n => .tuple [.str "received", .int n]
theorem dp_ins {K : PySem.W.Frag} {H : Hp} {a : Addr} {i : Ins} (h : SqT K H a i.vs) : Dp K H (.ref a) i.dat := by
  cases i with
  | new y x => exact .tup h (.cons (.str _) (.cons (.str _) (.cons (.str _) .nil)))
  | fixed n x => exact .tup h (.cons (.str _) (.cons (.int _) (.cons (.str _) .nil)))
  | entry n x => exact .tup h (.cons (.str _) (.cons (.int _) (.cons (.str _) .nil)))
  | _ => exact .tup h (.cons (.str _) (.cons (.int _) .nil))
theorem dp_ans {K : PySem.W.Frag} {H : Hp} {a : Addr} {i : Ans} (h : SqT K H a i.vs) : Dp K H (.ref a) i.dat := by
  cases i <;> exact .tup h (.cons (.str _) (.cons (.int _) .nil))
theorem dle_flat {n : Nat} {ds : List PyData} (h : ds.length ≤ 100000) (hd : ∀ d ∈ ds, DLe n d) : DLe (n + 1) (.tuple ds) := ⟨h, hd⟩
theorem dle_str (n : Nat) (x : Str) : DLe n (.str x) := by cases n <;> exact True.intro
theorem dle_int (n : Nat) (i : Int) : DLe n (.int i) := by cases n <;> exact True.intro
theorem dle_2 {n : Nat} {a b : PyData} (ha : DLe n a) (hb : DLe n b) : DLe (n + 1) (.tuple [a, b]) := ⟨by show 2 ≤ 100000; decide, fun d hd => by
  rcases List.mem_cons.mp hd with h | h
  · rw [h]; exact ha
  · rw [List.mem_singleton.mp h]; exact hb⟩
theorem dle_3 {n : Nat} {a b c : PyData} (ha : DLe n a) (hb : DLe n b) (hc : DLe n c) : DLe (n + 1) (.tuple [a, b, c]) := ⟨by show 3 ≤ 100000; decide, fun d hd => by
  rcases List.mem_cons.mp hd with h | h
  · rw [h]; exact ha
  rcases List.mem_cons.mp h with h | h
  · rw [h]; exact hb
  · rw [List.mem_singleton.mp h]; exact hc⟩
theorem dleL_2 {n : Nat} {a b : PyData} (ha : DLe n a) (hb : DLe n b) : DLe (n + 1) (.list [a, b]) := ⟨by show 2 ≤ 100000; decide, fun d hd => by
  rcases List.mem_cons.mp hd with h | h
  · rw [h]; exact ha
  · rw [List.mem_singleton.mp h]; exact hb⟩
theorem dle_ins (n : Nat) (i : Ins) : DLe (n + 1) i.dat := by
  cases i with
  | again k => exact dle_2 (dle_str _ _) (dle_int _ _)
  | limit k => exact dle_2 (dle_str _ _) (dle_int _ _)
  | fixed k x => exact dle_3 (dle_str _ _) (dle_int _ _) (dle_str _ _)
  | entry k x => exact dle_3 (dle_str _ _) (dle_int _ _) (dle_str _ _)
  | new y x => exact dle_3 (dle_str _ _) (dle_str _ _) (dle_str _ _)
theorem dle_ans (n : Nat) (i : Ans) : DLe (n + 1) i.dat := by
  cases i <;> exact dle_2 (dle_str _ _) (dle_int _ _)
theorem isChar_lt {c : Nat} (h : isChar c = true) : c < 4294967296 := by
  have h1 : (charCodes.all fun c => decide (c < 4294967296)) = true := by decide
  exact of_decide_eq_true (List.all_eq_true.mp h1 c (List.contains_iff_mem.mp h))
theorem okD_str {x : Str} (h : x.cps.toList.all isChar = true) : okD (.str x) = true := by
  show (x.cps.toList.all fun c => decide (c < 4294967296)) = true
  exact List.all_eq_true.mpr fun c hc => decide_eq_true (isChar_lt (List.all_eq_true.mp h c hc))
theorem okD_nat {n : Nat} (h : n ≤ 9999) : okD (.int (n : Nat)) = true := by
  have h3 : (1000001 : Nat) < 2 ^ 1000 := by decide +kernel
  refine decide_eq_true ?_
  rw [Int.natAbs_natCast]
  omega
theorem okD_ins {i : Ins} (ok : i.Ok) : okD i.dat = true ∧ wD i.dat ≤ 5000 := by
  cases i with
  | again n =>
    refine ⟨?_, by show 10 * 5 + 2 + 2 + (1010 + 2 + 0) + 4 ≤ 5000; decide⟩
    show (okD (.str "again") && (okD (.int (n : Nat)) && true)) = true
    rw [okD_nat ok]; decide +kernel
  | limit n =>
    refine ⟨?_, by show 10 * 5 + 2 + 2 + (1010 + 2 + 0) + 4 ≤ 5000; decide⟩
    show (okD (.str "limit") && (okD (.int (n : Nat)) && true)) = true
    rw [okD_nat ok]; decide +kernel
  | fixed n x =>
    have hx := txt_len ok.2
    refine ⟨?_, by show 10 * 5 + 2 + 2 + (1010 + 2 + (10 * x.length + 2 + 2 + 0)) + 4 ≤ 5000; omega⟩
    show (okD (.str "fixed") && (okD (.int (n : Nat)) && (okD (.str x) && true))) = true
    rw [okD_nat ok.1, okD_str (txt_all ok.2)]; decide +kernel
  | entry n x =>
    have hx := txt_len ok.2
    refine ⟨?_, by show 10 * 5 + 2 + 2 + (1010 + 2 + (10 * x.length + 2 + 2 + 0)) + 4 ≤ 5000; omega⟩
    show (okD (.str "entry") && (okD (.int (n : Nat)) && (okD (.str x) && true))) = true
    rw [okD_nat ok.1, okD_str (txt_all ok.2)]; decide +kernel
  | new y x =>
    have hx := txt_len ok.2
    have hy := txt_len20 ok.1
    refine ⟨?_, by show 10 * 3 + 2 + 2 + (10 * y.length + 2 + 2 + (10 * x.length + 2 + 2 + 0)) + 4 ≤ 5000; omega⟩
    show (okD (.str "new") && (okD (.str y) && (okD (.str x) && true))) = true
    rw [okD_str (txt_all ok.1), okD_str (txt_all ok.2)]; decide +kernel
theorem okD_ans {i : Ans} (ok : i.Ok) : okD i.dat = true ∧ wD i.dat ≤ 5000 := by
  cases i with
  | done n =>
    have h : n ≤ 20 := ok
    refine ⟨?_, by show 10 * 4 + 2 + 2 + (1010 + 2 + 0) + 4 ≤ 5000; decide⟩
    show (okD (.str "done") && (okD (.int (n : Nat)) && true)) = true
    rw [okD_nat (by omega)]; decide +kernel
  | cancelled n =>
    have h : n ≤ 20 := ok
    refine ⟨?_, by show 10 * 9 + 2 + 2 + (1010 + 2 + 0) + 4 ≤ 5000; decide⟩
    show (okD (.str "cancelled") && (okD (.int (n : Nat)) && true)) = true
    rw [okD_nat (by omega)]; decide +kernel
  | received n =>
    refine ⟨?_, by show 10 * 8 + 2 + 2 + (1010 + 2 + 0) + 4 ≤ 5000; decide⟩
    show (okD (.str "received") && (okD (.int (n : Nat)) && true)) = true
    rw [okD_nat ok.2]; decide +kernel
theorem ins_oct_len {i : Ins} (ok : i.Ok) : i.oct.length ≤ 100000 := by
  cases i with
  | again n => have h : n ≤ 9999 := ok; have := numOct_len n 5 0; show (numOct n 5 0).length ≤ _; omega
  | limit n => have h : n ≤ 9999 := ok; have := numOct_len n 5 32; show (numOct n 5 32).length ≤ _; omega
  | fixed n x => have h := ok.1; have := numOct_len n 6 192; have := strOct_len (b := 7) (m := 0) (txt_len ok.2); show (numOct n 6 192 ++ strOct x 7 0).length ≤ _; rw [List.length_append]; omega
  | entry n x => have h := ok.1; have := numOct_len n 6 128; have := strOct_len (b := 7) (m := 0) (txt_len ok.2); show (numOct n 6 128 ++ strOct x 7 0).length ≤ _; rw [List.length_append]; omega
  | new y x => have := strOct_len (b := 5) (m := 64) (txt_len (txt_20 ok.1)); have := strOct_len (b := 7) (m := 0) (txt_len ok.2); show (strOct y 5 64 ++ strOct x 7 0).length ≤ _; rw [List.length_append]; omega
theorem ans_oct_len {i : Ans} (ok : i.Ok) : i.oct.length ≤ 100000 := by
  cases i with
  | done n => have h : n ≤ 20 := ok; have := numOct_len n 7 128; show (numOct n 7 128).length ≤ _; omega
  | cancelled n => have h : n ≤ 20 := ok; have := numOct_len n 6 64; show (numOct n 6 64).length ≤ _; omega
  | received n => have h := ok.2; have := numOct_len n 6 0; show (numOct n 6 0).length ≤ _; omega
/-! ### all octets are octets -/
theorem restOct_oct (r : Nat) : ∀ o ∈ restOct r, 0 ≤ o ∧ o < 256 := by
  induction r using Nat.strongRecOn with
  | _ r ih =>
    intro o ho
    by_cases h : r < 128
    · rw [restOct_lt h] at ho
      have := List.mem_singleton.mp ho
      omega
    · rw [restOct_ge h] at ho
      rcases List.mem_cons.mp ho with z | z
      · omega
      · exact ih (r / 128) (by omega) o z
theorem numOct_oct {n b m : Nat} (h : m + (2 ^ b - 1) ≤ 255) : ∀ o ∈ numOct n b m, 0 ≤ o ∧ o < 256 := by
  intro o ho
  unfold numOct at ho
  by_cases h1 : n < 2 ^ b - 1
  · rw [if_pos h1] at ho
    have := List.mem_singleton.mp ho
    omega
  · rw [if_neg h1] at ho
    rcases List.mem_cons.mp ho with z | z
    · omega
    · exact restOct_oct _ o z
theorem strOct_oct {x : Str} {b m : Nat} (h : m + (2 ^ b - 1) ≤ 255) (hx : x.cps.toList.all isChar = true) : ∀ o ∈ strOct x b m, 0 ≤ o ∧ o < 256 := by
  intro o ho
  rcases List.mem_append.mp ho with z | z
  · exact numOct_oct h o z
  · obtain ⟨c, hc, rfl⟩ := List.mem_map.mp z
    have h1 : (charCodes.all fun c => decide (c < 256)) = true := by decide
    have := of_decide_eq_true (List.all_eq_true.mp h1 c (List.contains_iff_mem.mp (List.all_eq_true.mp hx c hc)))
    omega
theorem app_oct {a b : List Int} (h1 : ∀ o ∈ a, 0 ≤ o ∧ o < 256) (h2 : ∀ o ∈ b, 0 ≤ o ∧ o < 256) : ∀ o ∈ a ++ b, 0 ≤ o ∧ o < 256 := fun o ho => (List.mem_append.mp ho).elim (h1 o) (h2 o)
theorem ins_oct {i : Ins} (ok : i.Ok) : ∀ o ∈ i.oct, 0 ≤ o ∧ o < 256 := by
  cases i with
  | again n => exact numOct_oct (by decide)
  | limit n => exact numOct_oct (by decide)
  | fixed n x => exact app_oct (numOct_oct (by decide)) (strOct_oct (by decide) (txt_all ok.2))
  | entry n x => exact app_oct (numOct_oct (by decide)) (strOct_oct (by decide) (txt_all ok.2))
  | new y x => exact app_oct (strOct_oct (by decide) (txt_all ok.1)) (strOct_oct (by decide) (txt_all ok.2))
theorem ans_oct {i : Ans} (ok : i.Ok) : ∀ o ∈ i.oct, 0 ≤ o ∧ o < 256 := by
  cases i with
  | _ => exact numOct_oct (by decide)
theorem octV_of {os : List Int} (h : ∀ o ∈ os, 0 ≤ o ∧ o < 256) : octV (os.map V.int) = true := by
  refine List.all_eq_true.mpr fun v hv => ?_
  obtain ⟨o, ho, rfl⟩ := List.mem_map.mp hv
  have := h o ho
  exact btw_t (by omega) (by omega)
theorem kinds_ints {K : PySem.W.Frag} {H : Hp} (os : List Int) : ∀ x ∈ os.map V.int, ∃ t, Kind K H x t := fun x hx => by
  obtain ⟨o, _, rfl⟩ := List.mem_map.mp hx
  exact ⟨"int", .int o⟩
theorem read_in {α : Type} {N M : Addr} {f : List Int → Nat → Except Nat (α × Nat)} {R : α → V → Hp → Prop} {H : Hp} {Q : VK} {E : XK} {os : List Int} {x : α} (ho : ∀ o ∈ os, 0 ≤ o ∧ o < 256) (hw : whole os f = .ok x)
    (q : ∀ v H', Same H H' → R x v H' → Q v H') : if octV (os.map V.int) = true then ∃ os' : List Int, os.map V.int = os'.map V.int ∧ RdEnd N H Q E R (whole os' f) else ∀ H', Same H H' → E (.ref M) none H' := by
  rw [if_pos (octV_of ho)]
  refine ⟨os, rfl, ?_⟩
  rw [hw]
  exact q
end Fld
/-! Lines and blocks: their values, their octets, what is read of octets. -/
namespace Fld
open PySem PySem.Spec PyProof.Rows L2
inductive Ln where
  | fix1 (n : Nat) | fix2 (n : Nat) (x : Str) | ent1 (n : Nat) | ent2 (n : Nat) (x : Str) | out (y x : Str)
def Ln.vs : Ln → List V
  | .fix1 n => [.str "fixed", .int n]
  | .fix2 n x => [.str "fixed", .int n, .str x]
  | .ent1 n => [.str "entry", .int n]
  | .ent2 n x => [.str "entry", .int n, .str x]
  | .out y x => [.str "out", .str y, .str x]
def Ln.Ok (req : Nat) : Ln → Prop
  | .fix1 n => n ≤ 9999
  | .fix2 n x => n ≤ 9999 ∧ txt (.str x) 0 40 = true
  | .ent1 n => n < req
  | .ent2 n x => n < req ∧ txt (.str x) 0 40 = true
  | .out y x => txt (.str y) 1 20 = true ∧ txt (.str x) 0 40 = true
def wholeOct (base n : Nat) : List Int := if n < base then numOct (base - n - 1) 3 128 else numOct (n - base) 2 16
def namedOct (base n : Nat) : List Int := if n < base then numOct (base - n - 1) 3 64 else numOct (n - base) 2 0
def Ln.oct (base : Nat) : Ln → List Int
  | .fix1 n => numOct n 6 192
  | .fix2 n x => numOct n 4 96 ++ strOct x 7 0
  | .ent1 n => wholeOct base n
  | .ent2 n x => namedOct base n ++ strOct x 7 0
  | .out y x => strOct y 4 32 ++ strOct x 7 0
def LnV (K : PySem.W.Frag) (H : Hp) (v : V) (l : Ln) : Prop := ∃ a, v = .ref a ∧ SqT K H a l.vs
structure Blk where
  req : Nat
  base : Nat
  ls : List Ln
structure Blk.Ok (b : Blk) : Prop where
  req_ : b.req ≤ 9999
  base_ : b.base ≤ b.req
  len_ : b.ls.length ≤ 16
  lns_ : ∀ l : Ln, l ∈ b.ls → l.Ok b.req
def lnsOct (base : Nat) (ls : List Ln) : List Int := (ls.map (Ln.oct base)).flatten
def Blk.oct (b : Blk) : List Int := (numOct b.req 8 0 ++ numOct (b.req - b.base) 8 0) ++ lnsOct b.base b.ls
inductive LnsV (K : PySem.W.Frag) (H : Hp) : List V → List Ln → Prop
  | nil : LnsV K H [] []
  | cons {x : V} {xs : List V} {l : Ln} {ls : List Ln} : LnV K H x l → LnsV K H xs ls → LnsV K H (x :: xs) (l :: ls)
def BlkV (K : PySem.W.Frag) (H : Hp) (v : V) (b : Blk) : Prop := ∃ (a t : Addr) (xs : List V), v = .ref a ∧ SqT K H a [.int b.req, .int b.base, .ref t] ∧ SqT K H t xs ∧ LnsV K H xs b.ls
theorem LnV.keep {K : PySem.W.Frag} {H H' : Hp} {v : V} {l : Ln} (s : Same H H') (h : LnV K H v l) : LnV K H' v l := let ⟨a, e, h⟩ := h; ⟨a, e, s.tup h⟩
theorem LnsV.keep {K : PySem.W.Frag} {H H' : Hp} (s : Same H H') : ∀ {xs : List V} {ls : List Ln}, LnsV K H xs ls → LnsV K H' xs ls
  | _, _, .nil => .nil
  | _, _, .cons h t => .cons (h.keep s) (t.keep s)
theorem BlkV.keep {K : PySem.W.Frag} {H H' : Hp} {v : V} {b : Blk} (s : Same H H') (h : BlkV K H v b) : BlkV K H' v b := let ⟨a, t, xs, e, h1, h2, h3⟩ := h; ⟨a, t, xs, e, s.tup h1, s.tup h2, h3.keep s⟩
theorem LnsV.len {K : PySem.W.Frag} {H : Hp} : ∀ {xs : List V} {ls : List Ln}, LnsV K H xs ls → xs.length = ls.length
  | _, _, .nil => rfl
  | _, _, .cons _ t => by rw [List.length_cons, List.length_cons, t.len]
theorem LnsV.at_ {K : PySem.W.Frag} {H : Hp} : ∀ {xs : List V} {ls : List Ln} {i : Nat} {x : V}, LnsV K H xs ls → xs[i]? = some x → ∃ l, ls[i]? = some l ∧ LnV K H x l
  | _, _, _, _, .nil, e => by simp at e
  | _, _, 0, _, .cons h _, e => by simp at e; subst e; exact ⟨_, rfl, h⟩
  | _, _, i + 1, x, .cons _ t, e => by
    obtain ⟨l, h1, h2⟩ := t.at_ (i := i) (x := x) (by simpa using e)
    exact ⟨l, by simpa using h1, h2⟩
def sp_is_line (K : PySem.W.Frag) : Sp := fun vs H Q _ => ∃ (v : V) (l : Ln) (r : Nat), vs = [v, .int r] ∧ LnV K H v l ∧ l.Ok r ∧ ∀ H', Same H H' → Q (.bl true) H'
def sp_is_block (K : PySem.W.Frag) : Sp := fun vs H Q _ => ∃ (v : V) (b : Blk), vs = [v] ∧ BlkV K H v b ∧ b.Ok ∧ ∀ H', Same H H' → Q (.bl true) H'
def sp_line_octets (K : PySem.W.Frag) : Sp := fun vs H Q _ => ∃ (v : V) (l : Ln) (base r : Nat), vs = [v, .int base] ∧ LnV K H v l ∧ l.Ok r ∧ r ≤ 9999 ∧ base ≤ r ∧ RetInts (l.oct base) H Q
def sp_write_block (K : PySem.W.Frag) : Sp := fun vs H Q _ => ∃ (v : V) (b : Blk), vs = [v] ∧ BlkV K H v b ∧ b.Ok ∧ RetInts b.oct H Q
def sp_whole_octets (named : Bool) : Sp := fun vs H Q _ => ∃ (c : Str) (n base : Nat), vs = [.str c, .int n, .int base] ∧ n ≤ 9999 ∧ base ≤ 9999 ∧
  ((c = "fixed" ∧ RetInts (if named then numOct n 4 96 else numOct n 6 192) H Q) ∨ (c = "entry" ∧ RetInts (if named then namedOct base n else wholeOct base n) H Q))
theorem wholeOct_len {base n : Nat} (h1 : base ≤ 9999) (h2 : n ≤ 9999) : (wholeOct base n).length ≤ 10001 := by
  unfold wholeOct
  by_cases h : n < base
  · rw [if_pos h]; have := numOct_len (base - n - 1) 3 128; omega
  · rw [if_neg h]; have := numOct_len (n - base) 2 16; omega
theorem namedOct_len {base n : Nat} (h1 : base ≤ 9999) (h2 : n ≤ 9999) : (namedOct base n).length ≤ 10001 := by
  unfold namedOct
  by_cases h : n < base
  · rw [if_pos h]; have := numOct_len (base - n - 1) 3 64; omega
  · rw [if_neg h]; have := numOct_len (n - base) 2 0; omega
theorem ln_len {base r : Nat} {l : Ln} (ok : l.Ok r) (hr : r ≤ 9999) (hb : base ≤ r) : (l.oct base).length ≤ 10101 := by
  cases l with
  | fix1 n => have h : n ≤ 9999 := ok; have := numOct_len n 6 192; show (numOct n 6 192).length ≤ _; omega
  | fix2 n x => have h := ok.1; have := numOct_len n 4 96; have := strOct_len (b := 7) (m := 0) (txt_len ok.2); show (numOct n 4 96 ++ strOct x 7 0).length ≤ _; rw [List.length_append]; omega
  | ent1 n => have h : n < r := ok; have := wholeOct_len (base := base) (n := n) (by omega) (by omega); show (wholeOct base n).length ≤ _; omega
  | ent2 n x => have h := ok.1; have := namedOct_len (base := base) (n := n) (by omega) (by omega); have := strOct_len (b := 7) (m := 0) (txt_len ok.2); show (namedOct base n ++ strOct x 7 0).length ≤ _; rw [List.length_append]; omega
  | out y x => have := strOct_len (b := 4) (m := 32) (txt_len (txt_20 ok.1)); have := strOct_len (b := 7) (m := 0) (txt_len ok.2); show (strOct y 4 32 ++ strOct x 7 0).length ≤ _; rw [List.length_append]; omega
theorem lns_succ {base i : Nat} {ls : List Ln} {l : Ln} (h : ls[i]? = some l) : lnsOct base (ls.take (i + 1)) = lnsOct base (ls.take i) ++ l.oct base := by
  unfold lnsOct
  rw [List.take_add_one, h]
  simp
theorem lns_len {base r : Nat} (hr : r ≤ 9999) (hb : base ≤ r) : ∀ (ls : List Ln), (∀ l ∈ ls, l.Ok r) → (lnsOct base ls).length ≤ 10101 * ls.length
  | [], _ => Nat.le_refl _
  | l :: ls, h => by
    have h1 := ln_len (base := base) (h l (List.mem_cons_self ..)) hr hb
    have h2 := lns_len hr hb ls (fun x hx => h x (List.mem_cons_of_mem _ hx))
    have e : lnsOct base (l :: ls) = l.oct base ++ lnsOct base ls := rfl
    rw [e, List.length_append, List.length_cons]
    omega
theorem lns_take_len {base r i : Nat} {ls : List Ln} (hr : r ≤ 9999) (hb : base ≤ r) (h : ∀ l ∈ ls, l.Ok r) (hn : ls.length ≤ 16) : (lnsOct base (ls.take i)).length ≤ 170000 := by
  have h1 := lns_len (base := base) hr hb (ls.take i) (fun l hl => h l (List.mem_of_mem_take hl))
  have h2 : (ls.take i).length ≤ 16 := by rw [List.length_take]; omega
  omega
end Fld
/-! reading lines and blocks: the mirror -/
namespace Fld
open PySem PySem.Spec PyProof.Rows L2
def takeWhole (os : List Int) (req base : Nat) (k : Nat) : Except Nat (Ln × Nat) :=
  match os[k]? with
  | none => .error k
  | some o => if 192 ≤ o then (takeNum os 6 192 0 9999 k).map fun z => (.fix1 z.1.toNat, z.2)
    else if 128 ≤ o then (takeNum os 3 128 0 ((base : Int) - 1) k).map fun z => (.ent1 ((base : Int) - 1 - z.1).toNat, z.2)
    else (takeNum os 2 16 0 ((req : Int) - base - 1) k).map fun z => (.ent1 ((base : Int) + z.1).toNat, z.2)
def takeNamed (os : List Int) (req base : Nat) (k : Nat) : Except Nat ((Bool × Nat) × Nat) :=
  match os[k]? with
  | none => .error k
  | some o => if 96 ≤ o then (takeNum os 4 96 0 9999 k).map fun z => ((true, z.1.toNat), z.2)
    else if 64 ≤ o then (takeNum os 3 64 0 ((base : Int) - 1) k).map fun z => ((false, ((base : Int) - 1 - z.1).toNat), z.2)
    else (takeNum os 2 0 0 ((req : Int) - base - 1) k).map fun z => ((false, ((base : Int) + z.1).toNat), z.2)
def namedLn (x : Str) : Bool × Nat → Ln
  | (true, n) => .fix2 n x
  | (false, n) => .ent2 n x
def takeLine (os : List Int) (req base : Nat) (k : Nat) : Except Nat (Ln × Nat) :=
  match os[k]? with
  | none => .error k
  | some o => if 128 ≤ o ∨ (16 ≤ o ∧ o < 32) then takeWhole os req base k
    else if 32 ≤ o ∧ o < 64 then
      (match takeStr os 4 32 1 20 k with
      | .error e => .error e
      | .ok (y, k1) => (takeStr os 7 0 0 40 k1).map fun z => (.out y z.1, z.2))
    else
      (match takeNamed os req base k with
      | .error e => .error e
      | .ok (s, k1) => (takeStr os 7 0 0 40 k1).map fun z => (namedLn z.1 s, z.2))
def takeLines (os : List Int) (req base : Nat) : Nat → Nat → Except Nat (List Ln × Nat)
  | 0, k => .ok ([], k)
  | n + 1, k => if k = os.length then .ok ([], k) else
    match takeLine os req base k with
    | .error e => .error e
    | .ok (l, k1) => (takeLines os req base n k1).map fun z => (l :: z.1, z.2)
def takeBlk (os : List Int) (k : Nat) : Except Nat (Blk × Nat) :=
  match takeNum os 8 0 0 9999 k with
  | .error e => .error e
  | .ok (r, k1) =>
    match takeNum os 8 0 0 r k1 with
    | .error e => .error e
    | .ok (d, k2) => (takeLines os r.toNat (r - d).toNat 16 k2).map fun z => (⟨r.toNat, (r - d).toNat, z.1⟩, z.2)
def rLn (K : PySem.W.Frag) : Ln → V → Hp → Prop := fun l v H => LnV K H v l
def rNm (K : PySem.W.Frag) : Bool × Nat → V → Hp → Prop := fun s v H => ∃ a, v = .ref a ∧ SqT K H a [.str (if s.1 then "fixed" else "entry"), .int s.2]
def rBlk (K : PySem.W.Frag) : Blk → V → Hp → Prop := fun b v H => BlkV K H v b
def sp_takeL (K : PySem.W.Frag) (C N : Addr) {α : Type} (f : List Int → Nat → Nat → Nat → Except Nat (α × Nat)) (R : α → V → Hp → Prop) : Sp := fun vs H Q E => ∃ (r a : Addr) (os : List Int) (k req base : Nat), vs = [.ref r, .int req, .int base] ∧ Rd K C H r a os k ∧ base ≤ req ∧ req ≤ 9999 ∧ RdRes K C N r a os H Q E R (f os req base k)
theorem sqT_but {K : PySem.W.Frag} {H H' : Hp} {p a : Addr} {xs : List V} (h : SqT K H a xs) (b : But p H H') (n1 : ∀ ys, H p ≠ some (.tup ys)) (n2 : ∀ o w, H p ≠ some (.frz o w)) : SqT K H' a xs := by
  rcases h with (h | ⟨o, h⟩) | h
  · exact .inl (.inl (b a _ (fun e => n1 _ (e ▸ h)) h))
  · exact .inl (.inr ⟨o, b a _ (fun e => n2 _ _ (e ▸ h)) h⟩)
  · exact .inr h
theorem lns_but {K : PySem.W.Frag} {H H' : Hp} {p : Addr} (b : But p H H') (n1 : ∀ ys, H p ≠ some (.tup ys)) (n2 : ∀ o w, H p ≠ some (.frz o w)) : ∀ {xs : List V} {ls : List Ln}, LnsV K H xs ls → LnsV K H' xs ls
  | _, _, .nil => .nil
  | _, _, .cons ⟨a, e, h⟩ t => .cons ⟨a, e, sqT_but h b n1 n2⟩ (lns_but b n1 n2 t)
theorem lns_app {K : PySem.W.Frag} {H : Hp} {v : V} {l : Ln} (h : LnV K H v l) : ∀ {xs : List V} {ls : List Ln}, LnsV K H xs ls → LnsV K H (xs ++ [v]) (ls ++ [l])
  | _, _, .nil => .cons h .nil
  | _, _, .cons h1 t => .cons h1 (lns_app h t)
end Fld
/-! what is written of a block is read again -/
namespace Fld
open PySem PySem.Spec PyProof.Rows L2
theorem head_at {pre os suf : List Int} {o : Int} {l : List Int} (h : os = o :: l) : (pre ++ (os ++ suf))[pre.length]? = some o := by
  rw [h, List.getElem?_append_right (Nat.le_refl _), Nat.sub_self]
  rfl
theorem p7 : ((2 ^ 7 - 1 : Nat) : Int) = 127 := rfl
theorem p6 : ((2 ^ 6 - 1 : Nat) : Int) = 63 := rfl
theorem p4 : ((2 ^ 4 - 1 : Nat) : Int) = 15 := rfl
theorem p3 : ((2 ^ 3 - 1 : Nat) : Int) = 7 := rfl
theorem p2 : ((2 ^ 2 - 1 : Nat) : Int) = 3 := rfl
theorem line_named {pre no suf : List Int} {x : Str} {req base : Nat} {s : Bool × Nat} {o : Int} {l : List Int} (hh : no = o :: l) (h0 : o < 16 ∨ (64 ≤ o ∧ o < 128)) (hx : txt (.str x) 0 40 = true) (hn : takeNamed (pre ++ (no ++ (strOct x 7 0 ++ suf))) req base pre.length = .ok (s, pre.length + no.length)) :
    takeLine (pre ++ ((no ++ strOct x 7 0) ++ suf)) req base pre.length = .ok (namedLn x s, pre.length + (no ++ strOct x 7 0).length) := by
  have h40 := txt_len hx
  have e1 : pre ++ ((no ++ strOct x 7 0) ++ suf) = pre ++ (no ++ (strOct x 7 0 ++ suf)) := by rw [List.append_assoc]
  rw [e1]
  unfold takeLine
  rw [head_at hh]
  dsimp only
  rw [if_neg (by omega), if_neg (by omega), hn]
  dsimp only
  have := takeStr_oct x 7 0 0 40 (pre ++ no) suf (txt_all hx) (by omega) (by omega) (by decide) (by decide)
  rw [List.append_assoc, List.length_append] at this
  rw [this]
  refine congrArg Except.ok (Prod.ext rfl ?_)
  show pre.length + no.length + (strOct x 7 0).length = pre.length + (no ++ strOct x 7 0).length
  rw [List.length_append]
  omega
theorem line_oct {pre suf : List Int} {req base : Nat} (hr : req ≤ 9999) (hb : base ≤ req) (l : Ln) (ok : l.Ok req) : takeLine (pre ++ (l.oct base ++ suf)) req base pre.length = .ok (l, pre.length + (l.oct base).length) := by
  have P6 := p6
  have P4 := p4
  have P3 := p3
  have P2 := p2
  cases l with
  | fix1 n =>
    have hn : n ≤ 9999 := ok
    obtain ⟨o, t, e, h1, h2⟩ := numOct_head n 6 192
    have e0 : (Ln.fix1 n).oct base = numOct n 6 192 := rfl
    rw [e0]
    unfold takeLine takeWhole
    rw [head_at e]
    dsimp only
    rw [if_pos (.inl (by omega)), if_pos (by omega), takeNum_oct n 6 192 0 9999 pre suf (by omega) (by omega) (by decide) (by decide)]
    show Except.ok (Ln.fix1 ((n : Nat) : Int).toNat, _) = _
    rw [Int.toNat_natCast]
  | fix2 n x =>
    obtain ⟨o, t, e, h1, h2⟩ := numOct_head n 4 96
    have h9 := ok.1
    refine line_named (s := (true, n)) e (by omega) ok.2 ?_
    unfold takeNamed
    rw [head_at e]
    dsimp only
    rw [if_pos (by omega), takeNum_oct n 4 96 0 9999 pre _ (by omega) (by omega) (by decide) (by decide)]
    show Except.ok ((true, ((n : Nat) : Int).toNat), _) = _
    rw [Int.toNat_natCast]
  | ent1 n =>
    have hn : n < req := ok
    have e0 : (Ln.ent1 n).oct base = wholeOct base n := rfl
    rw [e0]
    unfold wholeOct
    by_cases hlt : n < base
    · rw [if_pos hlt]
      obtain ⟨o, t, e, h1, h2⟩ := numOct_head (base - n - 1) 3 128
      unfold takeLine takeWhole
      rw [head_at e]
      dsimp only
      rw [if_pos (.inl (by omega)), if_neg (by omega), if_pos (by omega), takeNum_oct (base - n - 1) 3 128 0 ((base : Int) - 1) pre suf (by omega) (by omega) (by decide) (by omega)]
      show Except.ok (Ln.ent1 ((base : Int) - 1 - ((base - n - 1 : Nat) : Int)).toNat, _) = _
      rw [show ((base : Int) - 1 - ((base - n - 1 : Nat) : Int)).toNat = n by omega]
    · rw [if_neg hlt]
      obtain ⟨o, t, e, h1, h2⟩ := numOct_head (n - base) 2 16
      unfold takeLine takeWhole
      rw [head_at e]
      dsimp only
      rw [if_pos (.inr ⟨by omega, by omega⟩), if_neg (by omega), if_neg (by omega), takeNum_oct (n - base) 2 16 0 ((req : Int) - base - 1) pre suf (by omega) (by omega) (by decide) (by omega)]
      show Except.ok (Ln.ent1 ((base : Int) + ((n - base : Nat) : Int)).toNat, _) = _
      rw [show ((base : Int) + ((n - base : Nat) : Int)).toNat = n by omega]
  | ent2 n x =>
    have hn := ok.1
    have e0 : (Ln.ent2 n x).oct base = namedOct base n ++ strOct x 7 0 := rfl
    rw [e0]
    unfold namedOct
    by_cases hlt : n < base
    · rw [if_pos hlt]
      obtain ⟨o, t, e, h1, h2⟩ := numOct_head (base - n - 1) 3 64
      refine line_named (s := (false, n)) e (by omega) ok.2 ?_
      unfold takeNamed
      rw [head_at e]
      dsimp only
      rw [if_neg (by omega), if_pos (by omega), takeNum_oct (base - n - 1) 3 64 0 ((base : Int) - 1) pre _ (by omega) (by omega) (by decide) (by omega)]
      show Except.ok ((false, ((base : Int) - 1 - ((base - n - 1 : Nat) : Int)).toNat), _) = _
      rw [show ((base : Int) - 1 - ((base - n - 1 : Nat) : Int)).toNat = n by omega]
    · rw [if_neg hlt]
      obtain ⟨o, t, e, h1, h2⟩ := numOct_head (n - base) 2 0
      refine line_named (s := (false, n)) e (by omega) ok.2 ?_
      unfold takeNamed
      rw [head_at e]
      dsimp only
      rw [if_neg (by omega), if_neg (by omega), takeNum_oct (n - base) 2 0 0 ((req : Int) - base - 1) pre _ (by omega) (by omega) (by decide) (by omega)]
      show Except.ok ((false, ((base : Int) + ((n - base : Nat) : Int)).toNat), _) = _
      rw [show ((base : Int) + ((n - base : Nat) : Int)).toNat = n by omega]
  | out y x =>
    obtain ⟨o, t, e, h1, h2⟩ := strOct_head y 4 32
    have h40 := txt_len ok.2
    have h20 := txt_len20 ok.1
    have e0 : (Ln.out y x).oct base = strOct y 4 32 ++ strOct x 7 0 := rfl
    rw [e0, show pre ++ ((strOct y 4 32 ++ strOct x 7 0) ++ suf) = pre ++ (strOct y 4 32 ++ (strOct x 7 0 ++ suf)) by rw [List.append_assoc]]
    unfold takeLine
    rw [head_at e]
    dsimp only
    rw [if_neg (by omega), if_pos ⟨by omega, by omega⟩, takeStr_oct y 4 32 1 20 pre _ (txt_all ok.1) (by omega) (by omega) (by decide) (by decide)]
    dsimp only
    have := takeStr_oct x 7 0 0 40 (pre ++ strOct y 4 32) suf (txt_all ok.2) (by omega) (by omega) (by decide) (by decide)
    rw [List.append_assoc, List.length_append] at this
    rw [this]
    refine congrArg Except.ok (Prod.ext rfl ?_)
    show pre.length + (strOct y 4 32).length + (strOct x 7 0).length = pre.length + (strOct y 4 32 ++ strOct x 7 0).length
    rw [List.length_append]
    omega
theorem ln_pos {base : Nat} (l : Ln) : 0 < (l.oct base).length := by
  have hd : ∀ {os : List Int}, (∃ o t, os = o :: t) → 0 < os.length := fun ⟨o, t, e⟩ => by rw [e]; exact Nat.succ_pos _
  have nm : ∀ n b m, 0 < (numOct n b m).length := fun n b m => hd (let ⟨o, t, e, _⟩ := numOct_head n b m; ⟨o, t, e⟩)
  have st : ∀ x b m, 0 < (strOct x b m).length := fun x b m => hd (let ⟨o, t, e, _⟩ := strOct_head x b m; ⟨o, t, e⟩)
  cases l with
  | fix1 n => exact nm _ _ _
  | fix2 n x => show 0 < (numOct n 4 96 ++ strOct x 7 0).length; rw [List.length_append]; have := st x 7 0; omega
  | ent1 n => show 0 < (wholeOct base n).length; unfold wholeOct; split <;> exact nm _ _ _
  | ent2 n x => show 0 < (namedOct base n ++ strOct x 7 0).length; rw [List.length_append]; have := st x 7 0; omega
  | out y x => show 0 < (strOct y 4 32 ++ strOct x 7 0).length; rw [List.length_append]; have := st x 7 0; omega
theorem lines_oct {req base : Nat} (hr : req ≤ 9999) (hb : base ≤ req) : ∀ (ls : List Ln) (N : Nat) (pre : List Int), (∀ l ∈ ls, l.Ok req) → ls.length ≤ N → takeLines (pre ++ lnsOct base ls) req base N pre.length = .ok (ls, (pre ++ lnsOct base ls).length)
  | [], N, pre, _, _ => by
    have e : pre ++ lnsOct base [] = pre := List.append_nil _
    rw [e]
    cases N with
    | zero => rfl
    | succ n => rw [takeLines, if_pos rfl]
  | l :: ls, 0, pre, _, h => absurd h (Nat.not_succ_le_zero _)
  | l :: ls, n + 1, pre, ok, h => by
    have e : lnsOct base (l :: ls) = l.oct base ++ lnsOct base ls := rfl
    have hp := ln_pos (base := base) l
    rw [e, takeLines, if_neg (by rw [List.length_append, List.length_append]; omega), line_oct hr hb l (ok l (List.mem_cons_self ..))]
    dsimp only
    have ih := lines_oct hr hb ls n (pre ++ l.oct base) (fun x hx => ok x (List.mem_cons_of_mem _ hx)) (Nat.le_of_succ_le_succ h)
    rw [List.append_assoc, List.length_append] at ih
    rw [ih]
    rfl
theorem whole_blk (b : Blk) (ok : b.Ok) : whole b.oct takeBlk = .ok b := by
  have o1 := ok.req_
  have o2 := ok.base_
  obtain ⟨req, base, ls⟩ := b
  refine whole_of ?_
  dsimp only at o1 o2
  have o3 := ok.len_
  have o4 := ok.lns_
  dsimp only at o3 o4
  have e0 : (Blk.mk req base ls).oct = numOct req 8 0 ++ (numOct (req - base) 8 0 ++ lnsOct base ls) := by
    show (numOct req 8 0 ++ numOct (req - base) 8 0) ++ lnsOct base ls = _
    rw [List.append_assoc]
  have h1 := takeNum0 req 8 0 0 9999 (numOct (req - base) 8 0 ++ lnsOct base ls) (by omega) (by omega) (by decide) (by decide)
  have h2 := takeNum_oct (req - base) 8 0 0 (req : Int) (numOct req 8 0) (lnsOct base ls) (by omega) (by omega) (by decide) (by omega)
  have h3 := lines_oct (pre := numOct req 8 0 ++ numOct (req - base) 8 0) o1 o2 ls 16 o4 o3
  unfold takeBlk
  rw [e0, h1]
  dsimp only
  rw [h2]
  dsimp only
  rw [List.append_assoc, List.length_append] at h3
  have eb : ((req : Int) - ((req - base : Nat) : Int)).toNat = base := by omega
  rw [Int.toNat_natCast, eb, h3]
  rfl
end Fld
/-! lines and blocks as data; how the laws draw them -/
namespace Fld
open PySem PySem.Spec PyProof.Rows L2
def Ln.dat : Ln → PyData
  | .fix1 n => .tuple [.str "fixed", .int n]
  | .fix2 n x => .tuple [.str "fixed", .int n, .str x]
  | .ent1 n => .tuple [.str "entry", .int n]
  | .ent2 n x => .tuple [.str "entry", .int n, .str x]
  | .out y x => .tuple [.str "out", .str y, .str x]
def Blk.dat (b : Blk) : PyData := .tuple [.int b.req, .int b.base, .tuple (b.ls.map Ln.dat)]
theorem dp_ln {K : PySem.W.Frag} {H : Hp} {a : Addr} {l : Ln} (h : SqT K H a l.vs) : Dp K H (.ref a) l.dat := by
  cases l with
  | fix1 n => exact .tup h (.cons (.str _) (.cons (.int _) .nil))
  | fix2 n x => exact .tup h (.cons (.str _) (.cons (.int _) (.cons (.str _) .nil)))
  | ent1 n => exact .tup h (.cons (.str _) (.cons (.int _) .nil))
  | ent2 n x => exact .tup h (.cons (.str _) (.cons (.int _) (.cons (.str _) .nil)))
  | out y x => exact .tup h (.cons (.str _) (.cons (.str _) (.cons (.str _) .nil)))
theorem dp_lns {K : PySem.W.Frag} {H : Hp} : ∀ {xs : List V} {ls : List Ln}, LnsV K H xs ls → DpAll K H xs (ls.map Ln.dat)
  | _, _, .nil => .nil
  | _, _, .cons ⟨_, e, h⟩ t => .cons (e ▸ dp_ln h) (dp_lns t)
theorem dp_blk {K : PySem.W.Frag} {H : Hp} {v : V} {b : Blk} (h : BlkV K H v b) : Dp K H v b.dat := by
  obtain ⟨a, t, xs, rfl, h1, h2, h3⟩ := h
  exact .tup h1 (.cons (.int _) (.cons (.int _) (.cons (.tup h2 (dp_lns h3)) .nil)))
theorem dle_ln (n : Nat) (l : Ln) : DLe (n + 1) l.dat := by
  cases l with
  | fix1 k => exact dle_2 (dle_str _ _) (dle_int _ _)
  | fix2 k x => exact dle_3 (dle_str _ _) (dle_int _ _) (dle_str _ _)
  | ent1 k => exact dle_2 (dle_str _ _) (dle_int _ _)
  | ent2 k x => exact dle_3 (dle_str _ _) (dle_int _ _) (dle_str _ _)
  | out y x => exact dle_3 (dle_str _ _) (dle_str _ _) (dle_str _ _)
theorem dle_blk (n : Nat) {b : Blk} (ok : b.Ok) : DLe (n + 3) b.dat := by
  refine dle_3 (dle_int _ _) (dle_int _ _) ⟨?_, fun d hd => ?_⟩
  · rw [List.length_map]; have := ok.len_; omega
  · obtain ⟨l, _, rfl⟩ := List.mem_map.mp hd
    exact dle_ln n l
theorem okD_ln {r : Nat} {l : Ln} (hr : r ≤ 9999) (ok : l.Ok r) : okD l.dat = true ∧ wD l.dat ≤ 5000 := by
  cases l with
  | fix1 n =>
    refine ⟨?_, by show 10 * 5 + 2 + 2 + (1010 + 2 + 0) + 4 ≤ 5000; decide⟩
    show (okD (.str "fixed") && (okD (.int (n : Nat)) && true)) = true
    rw [okD_nat ok]; decide +kernel
  | ent1 n =>
    have h : n < r := ok
    refine ⟨?_, by show 10 * 5 + 2 + 2 + (1010 + 2 + 0) + 4 ≤ 5000; decide⟩
    show (okD (.str "entry") && (okD (.int (n : Nat)) && true)) = true
    rw [okD_nat (by omega)]; decide +kernel
  | fix2 n x =>
    have hx := txt_len ok.2
    refine ⟨?_, by show 10 * 5 + 2 + 2 + (1010 + 2 + (10 * x.length + 2 + 2 + 0)) + 4 ≤ 5000; omega⟩
    show (okD (.str "fixed") && (okD (.int (n : Nat)) && (okD (.str x) && true))) = true
    rw [okD_nat ok.1, okD_str (txt_all ok.2)]; decide +kernel
  | ent2 n x =>
    have hx := txt_len ok.2
    have h := ok.1
    refine ⟨?_, by show 10 * 5 + 2 + 2 + (1010 + 2 + (10 * x.length + 2 + 2 + 0)) + 4 ≤ 5000; omega⟩
    show (okD (.str "entry") && (okD (.int (n : Nat)) && (okD (.str x) && true))) = true
    rw [okD_nat (by omega), okD_str (txt_all ok.2)]; decide +kernel
  | out y x =>
    have hx := txt_len ok.2
    have hy := txt_len20 ok.1
    refine ⟨?_, by show 10 * 3 + 2 + 2 + (10 * y.length + 2 + 2 + (10 * x.length + 2 + 2 + 0)) + 4 ≤ 5000; omega⟩
    show (okD (.str "out") && (okD (.str y) && (okD (.str x) && true))) = true
    rw [okD_str (txt_all ok.1), okD_str (txt_all ok.2)]; decide +kernel
theorem okD_lns {r : Nat} (hr : r ≤ 9999) : ∀ {ls : List Ln}, (∀ l ∈ ls, l.Ok r) → okAll (ls.map Ln.dat) = true ∧ wAll (ls.map Ln.dat) ≤ 5002 * ls.length
  | [], _ => ⟨rfl, Nat.le_refl _⟩
  | l :: ls, h => by
    have h1 := okD_ln hr (h l (List.mem_cons_self ..))
    have h2 := okD_lns hr (ls := ls) fun x hx => h x (List.mem_cons_of_mem _ hx)
    refine ⟨?_, ?_⟩
    · show (okD l.dat && okAll (ls.map Ln.dat)) = true
      rw [h1.1, h2.1]; rfl
    · show wD l.dat + 2 + wAll (ls.map Ln.dat) ≤ 5002 * (ls.length + 1)
      have := h1.2
      have := h2.2
      omega
theorem okD_blk {b : Blk} (ok : b.Ok) : okD b.dat = true ∧ wD b.dat ≤ 10000000 := by
  have h := okD_lns ok.req_ ok.lns_
  have h1 := ok.req_
  have h2 := ok.base_
  have h3 := ok.len_
  refine ⟨?_, ?_⟩
  · show (okD (.int (b.req : Nat)) && (okD (.int (b.base : Nat)) && (okAll (b.ls.map Ln.dat) && true))) = true
    rw [okD_nat h1, okD_nat (by omega), h.1]; rfl
  · show 1010 + 2 + (1010 + 2 + (wAll (b.ls.map Ln.dat) + 4 + 2 + 0)) + 4 ≤ 10000000
    have := h.2
    omega
theorem blk_len {b : Blk} (ok : b.Ok) : b.oct.length ≤ 1000000 ∧ b.oct.length ≤ 200000 := by
  have h := lns_len ok.req_ ok.base_ b.ls ok.lns_
  have h1 := ok.req_
  have h2 := ok.base_
  have h3 := ok.len_
  have l1 := numOct_len b.req 8 0
  have l2 := numOct_len (b.req - b.base) 8 0
  unfold Blk.oct
  rw [List.length_append, List.length_append]
  omega
theorem ln_octs {base r : Nat} {l : Ln} (ok : l.Ok r) : ∀ o ∈ l.oct base, 0 ≤ o ∧ o < 256 := by
  cases l with
  | fix1 n => exact numOct_oct (by decide)
  | fix2 n x => exact app_oct (numOct_oct (by decide)) (strOct_oct (by decide) (txt_all ok.2))
  | ent1 n => show ∀ o ∈ wholeOct base n, _; unfold wholeOct; split <;> exact numOct_oct (by decide)
  | ent2 n x =>
    refine app_oct ?_ (strOct_oct (by decide) (txt_all ok.2))
    unfold namedOct; split <;> exact numOct_oct (by decide)
  | out y x => exact app_oct (strOct_oct (by decide) (txt_all ok.1)) (strOct_oct (by decide) (txt_all ok.2))
theorem lns_octs {base r : Nat} : ∀ {ls : List Ln}, (∀ l ∈ ls, l.Ok r) → ∀ o ∈ lnsOct base ls, 0 ≤ o ∧ o < 256
  | [], _ => fun o ho => nomatch ho
  | l :: ls, h => app_oct (ln_octs (h l (List.mem_cons_self ..))) (lns_octs (ls := ls) fun x hx => h x (List.mem_cons_of_mem _ hx))
theorem blk_octs {b : Blk} (ok : b.Ok) : ∀ o ∈ b.oct, 0 ≤ o ∧ o < 256 := app_oct (app_oct (numOct_oct (by decide)) (numOct_oct (by decide))) (lns_octs ok.lns_)
def sp_law_draw_line : Sp := fun vs H Q _ => ∃ (p c : Addr) (n req : Nat), vs = [.ref p, .int req] ∧ Pen H p c n ∧ n ≤ 700000 ∧ req ≤ 9999 ∧ ∀ (a : Addr) (l : Ln) H', H' a = some (.tup l.vs) → l.Ok req → Drew p c H H' (n + 200) → Q (.ref a) H'
def sp_law_draw_block (K : PySem.W.Frag) : Sp := fun vs H Q _ => ∃ (p c : Addr) (n : Nat), vs = [.ref p] ∧ Pen H p c n ∧ n ≤ 600000 ∧ ∀ v (b : Blk) H', BlkV K H' v b → b.Ok → Drew p c H H' (n + 4000) → Q v H'
theorem restOct_len2 {r : Nat} (h : r < 16384) : (restOct r).length ≤ 2 := by
  by_cases h1 : r < 128
  · rw [restOct_lt h1]; show 1 ≤ 2; decide
  · rw [restOct_ge h1, restOct_lt (show r / 128 < 128 by omega)]; show 2 ≤ 2; decide
theorem numOct_len3 {n b m : Nat} (h : n ≤ 9999) : (numOct n b m).length ≤ 3 := by
  unfold numOct
  by_cases h1 : n < 2 ^ b - 1
  · rw [if_pos h1]; show 1 ≤ 3; decide
  · rw [if_neg h1, List.length_cons]
    have := restOct_len2 (r := n - (2 ^ b - 1)) (by omega)
    omega
theorem strOct_len2 {x : Str} {b m : Nat} (h : x.length ≤ 40) : (strOct x b m).length ≤ 43 := by
  unfold strOct
  have := numOct_len3 (n := x.length) (b := b) (m := m) (by omega)
  rw [List.length_append, List.length_map, ← str_len]
  omega
theorem ln_len2 {base r : Nat} {l : Ln} (ok : l.Ok r) (hr : r ≤ 9999) (hb : base ≤ r) : (l.oct base).length ≤ 90 := by
  cases l with
  | fix1 n => have h : n ≤ 9999 := ok; have := numOct_len3 (b := 6) (m := 192) h; show (numOct n 6 192).length ≤ _; omega
  | fix2 n x => have := numOct_len3 (b := 4) (m := 96) ok.1; have := strOct_len2 (b := 7) (m := 0) (txt_len ok.2); show (numOct n 4 96 ++ strOct x 7 0).length ≤ _; rw [List.length_append]; omega
  | ent1 n =>
    have h : n < r := ok
    show (wholeOct base n).length ≤ _
    unfold wholeOct
    split
    · have := numOct_len3 (n := base - n - 1) (b := 3) (m := 128) (by omega); omega
    · have := numOct_len3 (n := n - base) (b := 2) (m := 16) (by omega); omega
  | ent2 n x =>
    have h := ok.1
    have := strOct_len2 (b := 7) (m := 0) (txt_len ok.2)
    show (namedOct base n ++ strOct x 7 0).length ≤ _
    rw [List.length_append]
    unfold namedOct
    split
    · have := numOct_len3 (n := base - n - 1) (b := 3) (m := 64) (by omega); omega
    · have := numOct_len3 (n := n - base) (b := 2) (m := 0) (by omega); omega
  | out y x => have := strOct_len2 (b := 4) (m := 32) (txt_len (txt_20 ok.1)); have := strOct_len2 (b := 7) (m := 0) (txt_len ok.2); show (strOct y 4 32 ++ strOct x 7 0).length ≤ _; rw [List.length_append]; omega
theorem lns_len2 {base r : Nat} (hr : r ≤ 9999) (hb : base ≤ r) : ∀ (ls : List Ln), (∀ l ∈ ls, l.Ok r) → (lnsOct base ls).length ≤ 90 * ls.length
  | [], _ => Nat.le_refl _
  | l :: ls, h => by
    have h1 := ln_len2 (base := base) (h l (List.mem_cons_self ..)) hr hb
    have h2 := lns_len2 hr hb ls (fun x hx => h x (List.mem_cons_of_mem _ hx))
    have e : lnsOct base (l :: ls) = l.oct base ++ lnsOct base ls := rfl
    rw [e, List.length_append, List.length_cons]
    omega
theorem blk_len2 {b : Blk} (ok : b.Ok) : b.oct.length ≤ 2000 := by
  have h := lns_len2 ok.req_ ok.base_ b.ls ok.lns_
  have h1 := ok.req_
  have h2 := ok.base_
  have h3 := ok.len_
  have l1 := numOct_len3 (b := 8) (m := 0) h1
  have l2 := numOct_len3 (n := b.req - b.base) (b := 8) (m := 0) (by omega)
  unfold Blk.oct
  rw [List.length_append, List.length_append]
  omega
end Fld
/-! what a line, a block is, over data of any kind -/
namespace Fld
open PySem PySem.Spec PyProof.Rows L2
def dLine (req : Int) : PyData → Bool
  | .tuple [k, n] => if isS k "fixed" then dBtw n 0 9999 else isS k "entry" && dBtw n 0 (req - 1)
  | .tuple [k, n, x] => dTxt x 0 40 && (if isS k "fixed" then dBtw n 0 9999 else if isS k "entry" then dBtw n 0 (req - 1) else isS k "out" && dTxt n 1 20)
  | _ => false
def dBlk3 : PyData → PyData → PyData → Bool
  | .int r, b, .tuple ls => dBtw (.int r) 0 9999 && dBtw b 0 r && decide (ls.length ≤ 16) && ls.all (dLine r)
  | _, _, _ => false
def dBlock : PyData → Bool
  | .tuple [r, b, l] => dBlk3 r b l
  | _ => false
def sp_chkLn (K : PySem.W.Frag) : Sp := fun vs H Q _ => ∃ (v : V) (d : PyData) (r : Int), vs = [v, .int r] ∧ Dv K H v d ∧ Lim d ∧ ∀ H', Same H H' → Q (.bl (dLine r d)) H'
/-- a write that refuses what is none -/
def sp_write_any (K : PySem.W.Frag) (N : Addr) (f : PyData → Bool) : Sp := fun vs H Q E => ∃ (v : V) (d : PyData), vs = [v] ∧ Dv K H v d ∧ Lim d ∧ (f d = true → ∀ v' H', Same H H' → Q v' H') ∧ (f d = false → ∀ H', Same H H' → E (.ref N) none H')
/-- refused, or not -/
def sp_refused (K : PySem.W.Frag) (f : PyData → Bool) : Sp := fun vs H Q _ => ∃ (v : V) (d : PyData), vs = [v] ∧ Dv K H v d ∧ Lim d ∧ ∀ H', Same H H' → Q (.bl (!f d)) H'
theorem dLine_ne {r : Int} {ds : List PyData} (h2 : ds.length ≠ 2) (h3 : ds.length ≠ 3) : dLine r (.tuple ds) = false := by
  match ds, h2, h3 with
  | [], _, _ => rfl
  | [_], _, _ => rfl
  | [_, _], h, _ => exact absurd rfl h
  | [_, _, _], _, h => exact absurd rfl h
  | _ :: _ :: _ :: _ :: _, _, _ => rfl
theorem dLine_no {r : Int} {d : PyData} (e : subT (tyD d) "tuple" = false) : dLine r d = false := by
  rw [sub_tup] at e
  cases d <;> first | rfl | cases e
theorem dBlock_no {d : PyData} (e : subT (tyD d) "tuple" = false) : dBlock d = false := by
  rw [sub_tup] at e
  cases d <;> first | rfl | cases e
theorem dBlock_ne {ds : List PyData} (h : ds.length ≠ 3) : dBlock (.tuple ds) = false := by
  match ds, h with
  | [], _ => rfl
  | [_], _ => rfl
  | [_, _], _ => rfl
  | [_, _, _], h => exact absurd rfl h
  | _ :: _ :: _ :: _ :: _, _ => rfl
theorem blk3_num {r b l : PyData} (e : dBtw r 0 9999 = false) : dBlk3 r b l = false := by
  cases r <;> first | rfl | skip
  cases l <;> first | rfl | skip
  show (dBtw _ 0 9999 && _ && _ && _) = false
  rw [e]; rfl
theorem btw_int {d : PyData} {a b : Int} (e : dBtw d a b = true) : ∃ i : Int, d = .int i ∧ a ≤ i ∧ i ≤ b := by
  cases d <;> first | (cases e; done) | skip
  rename_i i
  have e' : (decide (a ≤ i) && decide (i ≤ b)) = true := e
  rw [Bool.and_eq_true, decide_eq_true_eq, decide_eq_true_eq] at e'
  exact ⟨i, rfl, e'.1, e'.2⟩
theorem isS_str {d : PyData} {z : Str} (e : isS d z = true) : d = .str z := by
  cases d <;> first | (cases e; done) | skip
  rename_i x
  have : x = z := of_decide_eq_true e
  rw [this]
theorem txt_str {d : PyData} {a b : Int} (e : dTxt d a b = true) : ∃ x, d = .str x ∧ txt (.str x) a b = true := by
  cases d <;> first | (cases e; done) | skip
  rename_i x
  exact ⟨x, rfl, e⟩
theorem Dv.sInt {K : PySem.W.Frag} {H : Hp} {v : V} {i : Int} (h : Dv K H v (.int i)) : v = .int i := by cases h; rfl
theorem Dv.sStr {K : PySem.W.Frag} {H : Hp} {v : V} {x : Str} (h : Dv K H v (.str x)) : v = .str x := by cases h; rfl
theorem Dv.sTup {K : PySem.W.Frag} {H : Hp} {v : V} {ds : List PyData} (h : Dv K H v (.tuple ds)) : ∃ a xs, v = .ref a ∧ SqT K H a xs ∧ DvAll K H xs ds := by
  cases h with
  | tup hs ha => exact ⟨_, _, rfl, hs, ha⟩
theorem Dv.sLst {K : PySem.W.Frag} {H : Hp} {v : V} {ds : List PyData} (h : Dv K H v (.list ds)) : ∃ a xs, v = .ref a ∧ SqL K H a xs ∧ DvAll K H xs ds := by
  cases h with
  | lst hs ha => exact ⟨_, _, rfl, hs, ha⟩
theorem ln_of {K : PySem.W.Frag} {H : Hp} {v : V} {d : PyData} {r : Nat} (h : Dv K H v d) (e : dLine r d = true) : ∃ l : Ln, LnV K H v l ∧ l.Ok r := by
  match d, h, e with
  | .tuple [k, n], h, e =>
    obtain ⟨a, xs, rfl, hs, ha⟩ := h.sTup
    obtain ⟨x0, x1, d0, d1, rfl, e2, h0, h1⟩ := len2 ha (by rw [ha.len]; rfl)
    injection e2 with e3 e4
    injection e4 with e4 _
    subst e3 e4
    have e' : (if isS k "fixed" = true then dBtw n 0 9999 else isS k "entry" && dBtw n 0 ((r : Int) - 1)) = true := e
    by_cases c : isS k "fixed" = true
    · rw [if_pos c] at e'
      obtain ⟨i, rfl, i0, i1⟩ := btw_int e'
      have := isS_str c; subst this
      have := h0.sStr; subst this
      have := h1.sInt; subst this
      obtain ⟨m, rfl⟩ : ∃ m : Nat, i = (m : Int) := ⟨i.toNat, by omega⟩
      exact ⟨.fix1 m, ⟨a, rfl, hs⟩, by show m ≤ 9999; omega⟩
    · rw [if_neg c, Bool.and_eq_true] at e'
      obtain ⟨i, rfl, i0, i1⟩ := btw_int e'.2
      have := isS_str e'.1; subst this
      have := h0.sStr; subst this
      have := h1.sInt; subst this
      obtain ⟨m, rfl⟩ : ∃ m : Nat, i = (m : Int) := ⟨i.toNat, by omega⟩
      exact ⟨.ent1 m, ⟨a, rfl, hs⟩, by show m < r; omega⟩
  | .tuple [k, n, x], h, e =>
    obtain ⟨a, xs, rfl, hs, ha⟩ := h.sTup
    obtain ⟨x0, x1, x2, d0, d1, d2, rfl, e2, h0, h1, h2⟩ := len3 ha (by rw [ha.len]; rfl)
    injection e2 with e3 e4
    injection e4 with e4 e5
    injection e5 with e5 _
    subst e3 e4 e5
    have e' : (dTxt x 0 40 && (if isS k "fixed" = true then dBtw n 0 9999 else if isS k "entry" = true then dBtw n 0 ((r : Int) - 1) else isS k "out" && dTxt n 1 20)) = true := e
    rw [Bool.and_eq_true] at e'
    obtain ⟨y, rfl, hy⟩ := txt_str e'.1
    have := h2.sStr; subst this
    have e6 := e'.2
    by_cases c : isS k "fixed" = true
    · rw [if_pos c] at e6
      obtain ⟨i, rfl, i0, i1⟩ := btw_int e6
      have := isS_str c; subst this
      have := h0.sStr; subst this
      have := h1.sInt; subst this
      obtain ⟨m, rfl⟩ : ∃ m : Nat, i = (m : Int) := ⟨i.toNat, by omega⟩
      exact ⟨.fix2 m y, ⟨a, rfl, hs⟩, by omega, hy⟩
    · rw [if_neg c] at e6
      by_cases c2 : isS k "entry" = true
      · rw [if_pos c2] at e6
        obtain ⟨i, rfl, i0, i1⟩ := btw_int e6
        have := isS_str c2; subst this
        have := h0.sStr; subst this
        have := h1.sInt; subst this
        obtain ⟨m, rfl⟩ : ∃ m : Nat, i = (m : Int) := ⟨i.toNat, by omega⟩
        exact ⟨.ent2 m y, ⟨a, rfl, hs⟩, by omega, hy⟩
      · rw [if_neg c2, Bool.and_eq_true] at e6
        obtain ⟨z, rfl, hz⟩ := txt_str e6.2
        have := isS_str e6.1; subst this
        have := h0.sStr; subst this
        have := h1.sStr; subst this
        exact ⟨.out z y, ⟨a, rfl, hs⟩, hz, hy⟩
theorem lns_of {K : PySem.W.Frag} {H : Hp} {r : Nat} : ∀ {xs : List V} {ds : List PyData}, DvAll K H xs ds → ds.all (dLine r) = true → ∃ ls : List Ln, LnsV K H xs ls ∧ ∀ l ∈ ls, l.Ok r
  | _, _, .nil, _ => ⟨[], .nil, fun l hl => nomatch hl⟩
  | _, _, .cons h t, e => by
    rw [List.all_cons, Bool.and_eq_true] at e
    obtain ⟨l, hl, ok⟩ := ln_of h e.1
    obtain ⟨ls, hls, oks⟩ := lns_of t e.2
    refine ⟨l :: ls, .cons hl hls, fun x hx => ?_⟩
    rcases List.mem_cons.mp hx with rfl | hx
    · exact ok
    · exact oks x hx
theorem blk_of {K : PySem.W.Frag} {H : Hp} {v : V} {d : PyData} (h : Dv K H v d) (e : dBlock d = true) : ∃ b : Blk, BlkV K H v b ∧ b.Ok := by
  match d, h, e with
  | .tuple [r, b, l], h, e =>
    obtain ⟨a, xs, rfl, hs, ha⟩ := h.sTup
    obtain ⟨x0, x1, x2, d0, d1, d2, rfl, e2, h0, h1, h2⟩ := len3 ha (by rw [ha.len]; rfl)
    injection e2 with e3 e4
    injection e4 with e4 e5
    injection e5 with e5 _
    subst e3 e4 e5
    match r, b, l, e, h0, h1, h2 with
    | .int r, b, .tuple ls, e, h0, h1, h2 =>
      have e' : (dBtw (.int r) 0 9999 && dBtw b 0 r && decide (ls.length ≤ 16) && ls.all (dLine r)) = true := e
      rw [Bool.and_eq_true, Bool.and_eq_true, Bool.and_eq_true, decide_eq_true_eq] at e'
      obtain ⟨⟨⟨q1, q2⟩, q3⟩, q4⟩ := e'
      obtain ⟨i, ei, i0, i1⟩ := btw_int q1
      injection ei with ei; subst ei
      obtain ⟨j, rfl, j0, j1⟩ := btw_int q2
      have := h0.sInt; subst this
      have := h1.sInt; subst this
      obtain ⟨t, ys, rfl, ht, hy⟩ := h2.sTup
      obtain ⟨m, rfl⟩ : ∃ m : Nat, r = (m : Int) := ⟨r.toNat, by omega⟩
      obtain ⟨k, rfl⟩ : ∃ m : Nat, j = (m : Int) := ⟨j.toNat, by omega⟩
      obtain ⟨ks, hk, ok⟩ := lns_of hy q4
      refine ⟨⟨m, k, ks⟩, ⟨a, t, ys, rfl, hs, ht, hk⟩, by show m ≤ 9999; omega, by show k ≤ m; omega, ?_, ok⟩
      show ks.length ≤ 16
      have := hk.len
      have := hy.len
      omega
end Fld
namespace Fld
open PySem PySem.Spec PyProof.Rows L2
theorem in23 (n : Nat) : inV (.int (n : Nat)) [.int 2, .int 3] = (decide (n = 2) || decide (n = 3)) := by
  show (eqV (.int 2) (.int n) || (eqV (.int 3) (.int n) || false)) = _
  have h : ∀ m : Int, eqV (.int m) (.int (n : Int)) = decide ((n : Int) = m) := fun m => by
    show (m == (n : Int)) = _
    rw [Bool.eq_iff_iff, beq_iff_eq, decide_eq_true_iff]
    exact ⟨fun h => h.symm, fun h => h.symm⟩
  rw [h, h, Bool.or_false]
  congr 1
  · exact decide_eq_decide.mpr ⟨fun h => by omega, fun h => by omega⟩
  · exact decide_eq_decide.mpr ⟨fun h => by omega, fun h => by omega⟩
theorem in23_no {n : Nat} (e : (!inV (.int (n : Nat)) [.int 2, .int 3]) = true) : n ≠ 2 ∧ n ≠ 3 := by
  rw [in23] at e
  have e' := nb e
  rw [Bool.or_eq_false_iff, decide_eq_false_iff_not, decide_eq_false_iff_not] at e'
  exact e'
theorem in23_yes {n : Nat} (e : (!inV (.int (n : Nat)) [.int 2, .int 3]) = false) : n = 2 ∨ n = 3 := by
  rw [in23] at e
  have e' := nb' e
  rw [Bool.or_eq_true, decide_eq_true_iff, decide_eq_true_iff] at e'
  exact e'
end Fld
namespace Fld
open PySem PySem.Spec PyProof.Rows L2
theorem decS {a b : Str} : decide (V.str a = V.str b) = isS (.str a) b := by
  show _ = decide (a = b)
  exact decide_eq_decide.mpr ⟨fun h => by injection h, fun h => by rw [h]⟩
theorem isS_no {d : PyData} {z : Str} (e : subT (tyD d) "str" = false) : isS d z = false := by
  rw [sub_str] at e
  cases d <;> first | rfl | cases e
theorem isS_eq {d : PyData} {a b : Str} (e : isS d a = true) (h : decide (a = b) = false) : isS d b = false := by
  rw [isS_str e]; exact h
end Fld
/-! tuples by their data: slices, +, *, turned about -/
namespace Fld
open PySem PySem.Spec PyProof.Rows L2
section
variable {K : PySem.W.Frag} {S : List Addr} {H : Hp} {v u : V} {ds es : List PyData} {Q : VK}
theorem slA_to (k : Nat) (h : Dv K (OffS S H) v (.tuple ds)) (hS : Hid S H) (q : ∀ r H', Same H H' → Dv K (OffS S H') r (.tuple (ds.take k)) → Q r H') : rSlA K v none (some (k : Int)) H Q := by
  obtain ⟨a, xs, rfl, hs, ha⟩ := h.sTup
  have hl := ha.len
  refine ⟨a, xs, rfl, (off_sub S H).tup hs, fun w => ?_, fun _ p hp => ?_⟩
  · have h2 := w.2
    rw [HT.sIx_nat] at h2
    have hk : ds.take k = ds := List.take_of_length_le (by omega)
    refine q _ H (Same.refl _) ?_
    rw [hk]; exact .tup hs ha
  · rw [cut_to]
    exact q _ _ (Same.new hp) (new_tup hp hS (ha.take k))
theorem slA_from (k : Nat) (h : Dv K (OffS S H) v (.tuple ds)) (hS : Hid S H) (q : ∀ r H', Same H H' → Dv K (OffS S H') r (.tuple (ds.drop k)) → Q r H') : rSlA K v (some (k : Int)) none H Q := by
  obtain ⟨a, xs, rfl, hs, ha⟩ := h.sTup
  have hl := ha.len
  refine ⟨a, xs, rfl, (off_sub S H).tup hs, fun w => ?_, fun _ p hp => ?_⟩
  · have h2 := w.1
    rw [HT.sIx_nat] at h2
    refine q _ H (Same.refl _) ?_
    rcases Nat.eq_zero_or_pos k with h0 | h0
    · rw [h0, List.drop_zero]; exact .tup hs ha
    · have hx : xs = [] := List.length_eq_zero_iff.mp (by omega)
      subst hx
      cases ha
      rw [List.drop_nil]
      exact .tup hs .nil
  · rw [cut_from]
    exact q _ _ (Same.new hp) (new_tup hp hS (ha.drop k))
theorem catA (h : Dv K (OffS S H) v (.tuple ds)) (h2 : Dv K (OffS S H) u (.tuple es)) (hS : Hid S H) (hz : ds.length + es.length ≤ sizeLine) (q : ∀ r H', Same H H' → Dv K (OffS S H') r (.tuple (ds ++ es)) → Q r H') : rCatA K v u H Q := by
  obtain ⟨a, xs, rfl, hs, ha⟩ := h.sTup
  obtain ⟨b, ys, rfl, hs2, ha2⟩ := h2.sTup
  have hl := ha.len
  have hl2 := ha2.len
  refine ⟨a, b, xs, ys, rfl, rfl, (off_sub S H).tup hs, (off_sub S H).tup hs2, by omega, fun e => ?_, fun _ e => ?_, fun _ _ p hp => ?_⟩
  · subst e
    cases ha
    exact q _ H (Same.refl _) (.tup hs2 ha2)
  · subst e
    cases ha2
    refine q _ H (Same.refl _) ?_
    rw [List.append_nil]
    exact .tup hs ha
  · exact q _ _ (Same.new hp) (new_tup hp hS (ha.app ha2))
theorem repA {d : PyData} (k : Nat) (h : Dv K (OffS S H) v (.tuple [d])) (hS : Hid S H) (h2 : 2 ≤ k) (hk : k ≤ 1000) (q : ∀ r H', Same H H' → Dv K (OffS S H') r (.tuple (List.replicate k d)) → Q r H') : rRepT K v (.int (k : Int)) H Q := by
  obtain ⟨a, xs, rfl, hs, ha⟩ := h.sTup
  cases ha with
  | cons h1 t =>
    cases t
    rename_i x
    refine ⟨a, k, [x], rfl, rfl, (off_sub S H).tup hs, by simp, by omega, by omega, by show 1 ≤ 1000; decide, fun p hp => ?_⟩
    rw [Int.toNat_natCast]
    have e : (List.replicate k [x]).flatten = List.replicate k x := by
      clear hk h2 q
      induction k with
      | zero => rfl
      | succ n ih => rw [List.replicate_succ, List.flatten_cons, ih, List.replicate_succ]; rfl
    rw [e]
    exact q _ _ (Same.new hp) (new_tup hp hS (DvAll.rep h1 k))
theorem DvAll.rev {K : PySem.W.Frag} {H : Hp} : ∀ {xs : List V} {ds : List PyData}, DvAll K H xs ds → DvAll K H xs.reverse ds.reverse
  | _, _, .nil => .nil
  | _, _, .cons h t => by
    rw [List.reverse_cons, List.reverse_cons]
    exact (DvAll.rev t).app (.cons h .nil)
end
/-- a tuple's items but one -/
theorem depthAll_app {k : Nat} {xs ys : List PyData} (h1 : PyData.depthAll xs ≤ k) (h2 : PyData.depthAll ys ≤ k) : PyData.depthAll (xs ++ ys) ≤ k := depthAll_le fun d hd => by
  rcases List.mem_append.mp hd with h | h
  · exact Nat.le_trans (depthAll_mem h) h1
  · exact Nat.le_trans (depthAll_mem h) h2
theorem depthAll_take {k : Nat} {xs : List PyData} (n : Nat) (h : PyData.depthAll xs ≤ k) : PyData.depthAll (xs.take n) ≤ k := depthAll_le fun d hd => Nat.le_trans (depthAll_mem (List.mem_of_mem_take hd)) h
theorem depthAll_drop {k : Nat} {xs : List PyData} (n : Nat) (h : PyData.depthAll xs ≤ k) : PyData.depthAll (xs.drop n) ≤ k := depthAll_le fun d hd => Nat.le_trans (depthAll_mem (List.mem_of_mem_drop hd)) h
theorem okVAll_take {xs : List PyData} (n : Nat) (h : okVAll xs = true) : okVAll (xs.take n) = true := okVAll_of fun d hd => okVAll_mem h (List.mem_of_mem_take hd)
theorem okVAll_drop {xs : List PyData} (n : Nat) (h : okVAll xs = true) : okVAll (xs.drop n) = true := okVAll_of fun d hd => okVAll_mem h (List.mem_of_mem_drop hd)
theorem okVAll_app' {xs ys : List PyData} (h1 : okVAll xs = true) (h2 : okVAll ys = true) : okVAll (xs ++ ys) = true := by rw [okVAll_app, h1, h2]; rfl
theorem wVAll_cut {ds : List PyData} {k : Nat} {d : PyData} (h : ds[k]? = some d) : wVAll (ds.take k) + (wV d + 2) + wVAll (ds.drop (k + 1)) = wVAll ds := by
  have hk := (List.getElem?_eq_some_iff.mp h)
  have e : ds = ds.take k ++ (d :: ds.drop (k + 1)) := by
    rw [← hk.2, ← List.drop_eq_getElem_cons hk.1, List.take_append_drop]
  have e2 : wVAll ds = wVAll (ds.take k ++ (d :: ds.drop (k + 1))) := congrArg wVAll e
  rw [wVAll_app, wVAll] at e2
  omega
theorem wVAll_rep (d : PyData) : ∀ k : Nat, wVAll (List.replicate k d) = k * (wV d + 2)
  | 0 => by rw [List.replicate_zero, wVAll]; omega
  | k + 1 => by rw [List.replicate_succ, wVAll, wVAll_rep d k, Nat.succ_mul]; omega
theorem wVAll_rev : ∀ ds : List PyData, wVAll ds.reverse = wVAll ds
  | [] => rfl
  | d :: ds => by
    rw [List.reverse_cons, wVAll_app, wVAll_rev ds, wVAll, wVAll, wVAll]; omega
theorem okVAll_rep {d : PyData} (h : okV d = true) (k : Nat) : okVAll (List.replicate k d) = true := okVAll_of fun x hx => by rw [(List.mem_replicate.mp hx).2]; exact h
theorem depthAll_rep {n : Nat} {d : PyData} (h : d.depth ≤ n) (k : Nat) : PyData.depthAll (List.replicate k d) ≤ n := depthAll_le fun x hx => by rw [(List.mem_replicate.mp hx).2]; exact h
theorem okVAll_rev {ds : List PyData} (h : okVAll ds = true) : okVAll ds.reverse = true := okVAll_of fun x hx => okVAll_mem h (List.mem_reverse.mp hx)
theorem depthAll_rev {n : Nat} {ds : List PyData} (h : PyData.depthAll ds ≤ n) : PyData.depthAll ds.reverse ≤ n := depthAll_le fun x hx => Nat.le_trans (depthAll_mem (List.mem_reverse.mp hx)) h
def sp_bentT (K : PySem.W.Frag) (M : Nat) : Sp := fun vs H Q _ => ∃ (p c : Addr) (n : Nat) (v : V) (d : PyData) (b e : Nat) (S : List Addr), vs = [.ref p, v] ∧ Pen H p c n ∧ n + 100 * (e + 1) ≤ 600000 ∧ p ∈ S ∧ Hid S H ∧ Dv K (OffS S H) v d ∧ Sz b e d ∧ e ≤ M ∧ M ≤ 20 ∧ b ≤ 500000 ∧
  ∀ (v' : V) (d' : PyData) H', Dv K (OffS S H') v' d' → Sz (18 * b + 2000) (e + 1) d' → Drew p c H H' (n + 100 * (e + 1)) → Q v' H'
def sp_bentT_sub (K : PySem.W.Frag) : Nat → Sp
  | 0 => fun _ _ _ _ => False
  | m + 1 => sp_bentT K m
/-! data without lists, apart from the pen -/
mutual
def noLst : PyData → Bool
  | .list _ => false
  | .tuple xs => noLstAll xs
  | .dict _ => false
  | _ => true
def noLstAll : List PyData → Bool
  | [] => true
  | x :: xs => noLst x && noLstAll xs
end
theorem sqT_off {K : PySem.W.Frag} {H : Hp} {a p : Addr} {xs : List V} {ys : List V} (h : SqT K H a xs) (hp : H p = some (.lst ys)) : SqT K (OffS [p] H) a xs := by
  rcases h with (h | ⟨o, h⟩) | h
  · have n : a ∉ [p] := fun z => by rw [List.mem_singleton.mp z, hp] at h; cases h
    exact .inl (.inl (by rw [off_ne n]; exact h))
  · have n : a ∉ [p] := fun z => by rw [List.mem_singleton.mp z, hp] at h; cases h
    exact .inl (.inr ⟨o, by rw [off_ne n]; exact h⟩)
  · exact .inr h
mutual
theorem dp_off {K : PySem.W.Frag} {H : Hp} {p : Addr} {ys : List V} (hp : H p = some (.lst ys)) : ∀ {v : V} {d : PyData}, Dp K H v d → noLst d = true → Dv K (OffS [p] H) v d
  | _, _, .non, _ => .non
  | _, _, .bl b, _ => .bl b
  | _, _, .int i, _ => .int i
  | _, _, .str x, _ => .str x
  | _, _, .lst h a, n => by simp [noLst] at n
  | _, _, .tup h a, n => .tup (sqT_off h hp) (dpAll_off hp a (by simpa [noLst] using n))
theorem dpAll_off {K : PySem.W.Frag} {H : Hp} {p : Addr} {ys : List V} (hp : H p = some (.lst ys)) : ∀ {vs : List V} {ds : List PyData}, DpAll K H vs ds → noLstAll ds = true → DvAll K (OffS [p] H) vs ds
  | _, _, .nil, _ => .nil
  | _, _, .cons h t, n => by
    rw [noLstAll, Bool.and_eq_true] at n
    exact .cons (dp_off hp h n.1) (dpAll_off hp t n.2)
end
end Fld
/-! fields, lists of fields, settings, entries: as values and by plain data; what stays while only tuples must stand -/
namespace Fld
open PySem PySem.Spec PyProof.Rows L2
def IsTupO (u : HO) : Prop := (∃ xs, u = .tup xs) ∨ ∃ o xs, u = .frz o (.tup xs)
/-- all tuples stand -/
def TS (H H' : Hp) : Prop := ∀ a u, IsTupO u → H a = some u → H' a = some u
theorem TS.refl (H : Hp) : TS H H := fun _ _ _ e => e
theorem TS.trans {H H1 H2 : Hp} (a : TS H H1) (b : TS H1 H2) : TS H H2 := fun c u t e => b c u t (a c u t e)
theorem TS.of {H H1 : Hp} (s : Same H H1) : TS H H1 := fun c u _ e => s c u e
theorem nt_lst {xs : List V} : ¬ IsTupO (.lst xs) := by
  rintro (⟨_, e⟩ | ⟨_, _, e⟩) <;> cases e
theorem nt_dK {kvs : List (Key × V)} : ¬ IsTupO (.dK kvs) := by
  rintro (⟨_, e⟩ | ⟨_, _, e⟩) <;> cases e
theorem nt_fD {o : Obj} {kvs : List (Key × V)} : ¬ IsTupO (.frz o (.dK kvs)) := by
  rintro (⟨_, e⟩ | ⟨_, _, e⟩) <;> cases e
theorem nt_ins {C d : Addr} {fs : List (Str × V)} : ¬ IsTupO (.ins C d fs) := by
  rintro (⟨_, e⟩ | ⟨_, _, e⟩) <;> cases e
theorem TS.at {H : Hp} {q : Addr} {o o0 : HO} (h : H q = some o0) (n : ¬ IsTupO o0) : TS H (upd H q o) := fun a u t e => by
  by_cases z : a = q
  · subst z; rw [h] at e; cases e; exact absurd t n
  · rw [upd_ne z]; exact e
theorem TS.new {H : Hp} {q : Addr} {o : HO} (h : H q = none) : TS H (upd H q o) := .of (Same.new h)
theorem TS.but {p : Addr} {H H' : Hp} {o0 : HO} (b : But p H H') (h : H p = some o0) (n : ¬ IsTupO o0) : TS H H' := fun a u t e => by
  by_cases z : a = p
  · subst z; rw [h] at e; cases e; exact absurd t n
  · exact b a u z e
theorem TS.drew {p c : Addr} {H H' : Hp} {n m : Nat} (hp : Pen H p c n) (d : Drew p c H H' m) : TS H H' := by
  obtain ⟨⟨xs, e⟩, _⟩ := hp.some
  exact TS.but d.but e nt_lst
theorem TS.tup {K : PySem.W.Frag} {H H' : Hp} {a : Addr} {xs : List V} (t : TS H H') (h : SqT K H a xs) : SqT K H' a xs := by
  rcases h with (h | ⟨o, h⟩) | h
  · exact .inl (.inl (t _ _ (.inl ⟨_, rfl⟩) h))
  · exact .inl (.inr ⟨o, t _ _ (.inr ⟨_, _, rfl⟩) h⟩)
  · exact .inr h
/-! ### fields -/
abbrev Fd := Str × Str
structure FdOk (f : Fd) : Prop where
  n : txt (.str f.1) 1 20 = true
  v : txt (.str f.2) 0 40 = true
def fdat (f : Fd) : PyData := .tuple [.str f.1, .str f.2]
def FdV (K : PySem.W.Frag) (H : Hp) (v : V) (f : Fd) : Prop := ∃ a, v = .ref a ∧ SqT K H a [.str f.1, .str f.2]
abbrev FdsV (K : PySem.W.Frag) (H : Hp) (xs : List V) (F : List Fd) : Prop := Paired (FdV K H) xs F
theorem FdV.ts {K : PySem.W.Frag} {H H' : Hp} {v : V} {f : Fd} (h : FdV K H v f) (t : TS H H') : FdV K H' v f := let ⟨a, e, s⟩ := h; ⟨a, e, t.tup s⟩
theorem pmap {α β : Type} {R S : α → β → Prop} (f : ∀ x y, R x y → S x y) : ∀ {xs : List α} {ys : List β}, Paired R xs ys → Paired S xs ys
  | _, _, .nil => .nil
  | _, _, .cons h t => .cons (f _ _ h) (pmap f t)
theorem FdsV.ts {K : PySem.W.Frag} {H H' : Hp} {xs : List V} {F : List Fd} (h : FdsV K H xs F) (t : TS H H') : FdsV K H' xs F := pmap (fun _ _ z => z.ts t) h
theorem FdV.dp {K : PySem.W.Frag} {H : Hp} {v : V} {f : Fd} (h : FdV K H v f) : Dp K H v (fdat f) := by
  obtain ⟨a, rfl, s⟩ := h
  exact .tup s (.cons (.str _) (.cons (.str _) .nil))
theorem FdsV.dp {K : PySem.W.Frag} {H : Hp} : ∀ {xs : List V} {F : List Fd}, FdsV K H xs F → DpAll K H xs (F.map fdat)
  | _, _, .nil => .nil
  | _, _, .cons h t => .cons h.dp (FdsV.dp t)
theorem p_at {α β : Type} {R : α → β → Prop} : ∀ {xs : List α} {ys : List β} {i : Nat} {x : α}, Paired R xs ys → xs[i]? = some x → ∃ y, ys[i]? = some y ∧ R x y
  | _, _, _, _, .nil, e => by simp at e
  | _, _, 0, _, .cons h _, e => by simp at e; subst e; exact ⟨_, rfl, h⟩
  | _, _, i + 1, x, .cons _ t, e => by
    obtain ⟨y, h1, h2⟩ := p_at (i := i) (x := x) t (by simpa using e)
    exact ⟨y, by simpa using h1, h2⟩
theorem p_at' {α β : Type} {R : α → β → Prop} : ∀ {xs : List α} {ys : List β} {i : Nat} {y : β}, Paired R xs ys → ys[i]? = some y → ∃ x, xs[i]? = some x ∧ R x y
  | _, _, _, _, .nil, e => by simp at e
  | _, _, 0, _, .cons h _, e => by simp at e; subst e; exact ⟨_, rfl, h⟩
  | _, _, i + 1, x, .cons _ t, e => by
    obtain ⟨y, h1, h2⟩ := p_at' (i := i) (y := x) t (by simpa using e)
    exact ⟨y, by simpa using h1, h2⟩
theorem p_app {α β : Type} {R : α → β → Prop} : ∀ {xs zs : List α} {ys us : List β}, Paired R xs ys → Paired R zs us → Paired R (xs ++ zs) (ys ++ us)
  | _, _, _, _, .nil, s => s
  | _, _, _, _, .cons r t, s => .cons r (p_app t s)
theorem p_rev {α β : Type} {R : α → β → Prop} : ∀ {xs : List α} {ys : List β}, Paired R xs ys → Paired R xs.reverse ys.reverse
  | _, _, .nil => .nil
  | _, _, .cons r t => by
    rw [List.reverse_cons, List.reverse_cons]
    exact p_app (p_rev t) (.cons r .nil)
theorem p_len {α β : Type} {R : α → β → Prop} : ∀ {xs : List α} {ys : List β}, Paired R xs ys → xs.length = ys.length
  | _, _, .nil => rfl
  | _, _, .cons _ t => by rw [List.length_cons, List.length_cons, p_len t]
theorem dField_fd {f : Fd} (h : FdOk f) : dField (fdat f) = true := by
  have h1 : dTxt (.str f.1) 1 20 = true := h.n
  have h2 : dTxt (.str f.2) 0 40 = true := h.v
  show (dTxt (.str f.1) 1 20 && dTxt (.str f.2) 0 40) = true
  rw [h1, h2]; rfl
theorem sz_fd {f : Fd} (h : FdOk f) : Sz 700 1 (fdat f) := by
  have zx := sz_txt (b := 20) h.n
  have zy := sz_txt (b := 40) h.v
  refine sz_tup' (k := 0) ?_ ?_ ?_
  · rw [okVAll, okVAll, okVAll, zx.ok, zy.ok]; rfl
  · have := zx.w; have := zy.w
    rw [wVAll, wVAll, wVAll]; omega
  · exact depthAll_le fun d hd => by
      simp only [List.mem_cons, List.not_mem_nil, or_false] at hd
      rcases hd with rfl | rfl
      · exact zx.dp
      · exact zy.dp
theorem sz_many {b k : Nat} : ∀ {ds : List PyData}, (∀ d ∈ ds, Sz b k d) → okVAll ds = true ∧ wVAll ds ≤ (b + 2) * ds.length ∧ PyData.depthAll ds ≤ k
  | [], _ => ⟨by rw [okVAll], by rw [wVAll]; omega, by rw [PyData.depthAll]; omega⟩
  | d :: ds, h => by
    obtain ⟨h1, h2, h3⟩ := sz_many (ds := ds) fun e he => h e (List.mem_cons_of_mem _ he)
    have z := h d (List.mem_cons_self ..)
    refine ⟨by rw [okVAll, z.ok, h1]; rfl, ?_, ?_⟩
    · rw [wVAll, List.length_cons, Nat.mul_add]; have := z.w; omega
    · rw [PyData.depthAll]; have := z.dp; omega
theorem sz_fds {F : List Fd} (h : ∀ f ∈ F, FdOk f) (hl : F.length ≤ 40) : Sz 30000 2 (.tuple (F.map fdat)) := by
  obtain ⟨h1, h2, h3⟩ := sz_many (b := 700) (k := 1) (ds := F.map fdat) fun d hd => by
    obtain ⟨f, hf, rfl⟩ := List.mem_map.mp hd
    exact sz_fd (h f hf)
  rw [List.length_map] at h2
  have : (700 + 2) * F.length ≤ (700 + 2) * 40 := Nat.mul_le_mul_left _ hl
  exact sz_tup' h1 (by omega) h3
/-! ### settings -/
def SetV (K : PySem.W.Frag) (H : Hp) (v : V) (F : List Fd) (r w : Nat) : Prop := ∃ (a t : Addr) (xs : List V), v = .ref a ∧ SqT K H a [.ref t, .int (r : Nat), .int (w : Nat)] ∧ SqT K H t xs ∧ FdsV K H xs F
structure SetOk (F : List Fd) (r w : Nat) : Prop where
  len : F.length ≤ 12
  fd : ∀ f ∈ F, FdOk f
  r : r ≤ 120
  w : w ≤ 4
def sdat (F : List Fd) (r w : Nat) : PyData := .tuple [.tuple (F.map fdat), .int (r : Nat), .int (w : Nat)]
theorem SetV.ts {K : PySem.W.Frag} {H H' : Hp} {v : V} {F : List Fd} {r w : Nat} (h : SetV K H v F r w) (t : TS H H') : SetV K H' v F r w := let ⟨a, b, xs, e, s1, s2, s3⟩ := h; ⟨a, b, xs, e, t.tup s1, t.tup s2, s3.ts t⟩
theorem SetV.dp {K : PySem.W.Frag} {H : Hp} {v : V} {F : List Fd} {r w : Nat} (h : SetV K H v F r w) : Dp K H v (sdat F r w) := by
  obtain ⟨a, b, xs, rfl, s1, s2, s3⟩ := h
  exact .tup s1 (.cons (.tup s2 s3.dp) (.cons (.int _) (.cons (.int _) .nil)))
theorem nat_btw' {k a b : Nat} (h1 : a ≤ k) (h2 : k ≤ b) : dBtw (.int (k : Nat)) (a : Nat) (b : Nat) = true := by
  show (decide (((a : Nat) : Int) ≤ (k : Nat)) && decide (((k : Nat) : Int) ≤ (b : Nat))) = true
  rw [decide_eq_true (by omega), decide_eq_true (by omega)]; rfl
theorem dSetting_ok {F : List Fd} {r w : Nat} (h : SetOk F r w) : dSetting (sdat F r w) = true := by
  show (dFields 12 (.tuple (F.map fdat)) && dBtw (.int (r : Nat)) 0 120 && dBtw (.int (w : Nat)) 0 4) = true
  have e1 : dFields 12 (.tuple (F.map fdat)) = true := by
    show (decide ((F.map fdat).length ≤ 12) && (F.map fdat).all dField) = true
    rw [List.length_map, decide_eq_true h.len, Bool.true_and, List.all_eq_true]
    intro d hd
    obtain ⟨f, hf, rfl⟩ := List.mem_map.mp hd
    exact dField_fd (h.fd f hf)
  have e2 : dBtw (.int (r : Nat)) 0 120 = true := nat_btw' (a := 0) (b := 120) (by omega) h.r
  have e3 : dBtw (.int (w : Nat)) 0 4 = true := nat_btw' (a := 0) (b := 4) (by omega) h.w
  rw [e1, e2, e3]; rfl
theorem sz_set {F : List Fd} {r w : Nat} (h : SetOk F r w) : Sz 40000 3 (sdat F r w) := by
  have zf := sz_fds h.fd (by have := h.len; omega)
  have h3 : (200 : Nat) < 2 ^ 1000 := by decide +kernel
  have ir : Sz 1010 0 (.int (r : Nat)) := sz_int (by have := h.r; omega)
  have iw : Sz 1010 0 (.int (w : Nat)) := sz_int (by have := h.w; omega)
  refine sz_tup' (k := 2) ?_ ?_ ?_
  · rw [okVAll, okVAll, okVAll, okVAll, zf.ok, ir.ok, iw.ok]; rfl
  · have := zf.w; have := ir.w; have := iw.w
    rw [wVAll, wVAll, wVAll, wVAll]; omega
  · refine depthAll_le fun d hd => ?_
    simp only [List.mem_cons, List.not_mem_nil, or_false] at hd
    rcases hd with rfl | rfl | rfl
    · exact zf.dp
    · exact Nat.le_trans ir.dp (by decide)
    · exact Nat.le_trans iw.dp (by decide)
/-! ### entries -/
abbrev Ent := List (Nat × Fd)
def nkey (n : Nat) : Key := Sum.inl ((n : Nat) : Int)
theorem nkey_inj {a b : Nat} (h : nkey a = nkey b) : a = b := by
  have := Sum.inl.inj h
  omega
def PrV (K : PySem.W.Frag) (H : Hp) (p : Key × V) (e : Nat × Fd) : Prop := p.1 = nkey e.1 ∧ FdV K H p.2 e.2
theorem PrV.ts {K : PySem.W.Frag} {H H' : Hp} {p : Key × V} {e : Nat × Fd} (h : PrV K H p e) (t : TS H H') : PrV K H' p e := ⟨h.1, h.2.ts t⟩
def EntV (K : PySem.W.Frag) (H : Hp) (D : Addr) (es : Ent) : Prop := ∃ kvs, H D = some (.dK kvs) ∧ Paired (PrV K H) kvs es
def lookE (es : Ent) (n : Nat) : Option Fd := (es.find? fun e => decide (e.1 = n)).map (·.2)
def putE (es : Ent) (n : Nat) (f : Fd) : Ent := if (es.any fun e => decide (e.1 = n)) = true then es.map (fun e => if e.1 = n then (e.1, f) else e) else es ++ [(n, f)]
def dropE (es : Ent) (n : Nat) : Ent := es.filter fun e => decide (e.1 ≠ n)
structure EsOk (m : Nat) (es : Ent) : Prop where
  len : es.length ≤ m
  key : ∀ e ∈ es, e.1 ≤ 40
  fd : ∀ e ∈ es, FdOk e.2
  nd : (es.map (·.1)).Nodup
theorem EntV.ts {K : PySem.W.Frag} {H H' : Hp} {D : Addr} {es : Ent} (h : EntV K H D es) (t : TS H H') (e : ∀ o, H D = some o → H' D = some o) : EntV K H' D es := let ⟨kvs, h1, h2⟩ := h; ⟨kvs, e _ h1, pmap (fun _ _ z => z.ts t) h2⟩
theorem EntV.same {K : PySem.W.Frag} {H H' : Hp} {D : Addr} {es : Ent} (h : EntV K H D es) (s : Same H H') : EntV K H' D es := h.ts (.of s) fun o e => s _ _ e
/-- a value or None -/
def OFd (K : PySem.W.Frag) (H : Hp) (v : V) : Option Fd → Prop
  | none => v = .non
  | some f => FdV K H v f
theorem OFd.ts {K : PySem.W.Frag} {H H' : Hp} {v : V} {o : Option Fd} (h : OFd K H v o) (t : TS H H') : OFd K H' v o := by
  cases o with
  | none => exact h
  | some f => exact FdV.ts h t
theorem look_get {K : PySem.W.Frag} {H : Hp} {n : Nat} : ∀ {kvs : List (Key × V)} {es : Ent}, Paired (PrV K H) kvs es → (valV kvs (nkey n) = none ∧ lookE es n = none) ∨ ∃ v f, valV kvs (nkey n) = some v ∧ lookE es n = some f ∧ FdV K H v f
  | _, _, .nil => .inl ⟨rfl, rfl⟩
  | p :: kvs, e :: es, .cons h t => by
    by_cases c : e.1 = n
    · refine .inr ⟨p.2, e.2, ?_, ?_, h.2⟩
      · exact valV_pos (by rw [h.1, c])
      · unfold lookE; rw [List.find?_cons, decide_eq_true c]; rfl
    · have e1 : valV (p :: kvs) (nkey n) = valV kvs (nkey n) := valV_neg (by rw [h.1]; exact fun z => c (nkey_inj z))
      have e2 : lookE (e :: es) n = lookE es n := by unfold lookE; rw [List.find?_cons, decide_eq_false c]
      rw [e1, e2]
      exact look_get t
theorem any_get {K : PySem.W.Frag} {H : Hp} {n : Nat} : ∀ {kvs : List (Key × V)} {es : Ent}, Paired (PrV K H) kvs es → (kvs.any fun kv => decide (kv.1 = nkey n)) = es.any fun e => decide (e.1 = n)
  | _, _, .nil => rfl
  | p :: kvs, e :: es, .cons h t => by
    rw [List.any_cons, List.any_cons, any_get t]
    congr 1
    exact decide_eq_decide.mpr ⟨fun z => nkey_inj (h.1.symm.trans z), fun z => by rw [h.1, z]⟩
theorem put_get {K : PySem.W.Frag} {H : Hp} {n : Nat} {v : V} {f : Fd} {kvs : List (Key × V)} {es : Ent} (h : Paired (PrV K H) kvs es) (hf : FdV K H v f) : Paired (PrV K H) (putK kvs (nkey n) v) (putE es n f) := by
  have go : ∀ {kvs : List (Key × V)} {es : Ent}, Paired (PrV K H) kvs es → Paired (PrV K H) (kvs.map fun kv => if kv.1 = nkey n then (kv.1, v) else kv) (es.map fun e => if e.1 = n then (e.1, f) else e) := by
    intro kvs es h
    induction h with
    | nil => exact .nil
    | @cons p e _ _ h t ih =>
      rw [List.map_cons, List.map_cons]
      refine .cons ?_ ih
      by_cases c : e.1 = n
      · rw [if_pos c, if_pos (by rw [h.1, c])]; exact ⟨h.1, hf⟩
      · rw [if_neg c, if_neg (by rw [h.1]; exact fun z => c (nkey_inj z))]; exact h
  unfold putK putE
  rw [any_get h]
  by_cases c : (es.any fun e => decide (e.1 = n)) = true
  · rw [if_pos c, if_pos c]; exact go h
  · rw [if_neg c, if_neg c]; exact p_app h (.cons ⟨rfl, hf⟩ .nil)
theorem drop_get {K : PySem.W.Frag} {H : Hp} {n : Nat} : ∀ {kvs : List (Key × V)} {es : Ent}, Paired (PrV K H) kvs es → Paired (PrV K H) (dropK kvs (nkey n)) (dropE es n)
  | _, _, .nil => .nil
  | p :: kvs, e :: es, .cons h t => by
    unfold dropK dropE
    rw [List.filter_cons, List.filter_cons]
    by_cases c : e.1 = n
    · rw [if_neg (by simp [h.1, c]), if_neg (by simp [c])]; exact drop_get t
    · rw [if_pos (by simp only [decide_eq_true_eq]; rw [h.1]; exact fun z => c (nkey_inj z)), if_pos (by simp [c])]; exact .cons h (drop_get t)
theorem len_putE (es : Ent) (n : Nat) (f : Fd) : (putE es n f).length ≤ es.length + 1 := by
  unfold putE
  split
  · rw [List.length_map]; omega
  · simp
theorem keys_map (es : Ent) (n : Nat) (f : Fd) : (es.map fun e => if e.1 = n then (e.1, f) else e).map (·.1) = es.map (·.1) := by
  rw [List.map_map]
  apply List.map_congr_left
  intro e _
  show (if e.1 = n then (e.1, f) else e).1 = e.1
  split <;> rfl
theorem EsOk.put {m n : Nat} {es : Ent} {f : Fd} (h : EsOk m es) (hn : n ≤ 40) (hf : FdOk f) : EsOk (m + 1) (putE es n f) := by
  refine ⟨by have := len_putE es n f; have := h.len; omega, ?_, ?_, ?_⟩
  · intro e he
    unfold putE at he
    split at he
    · obtain ⟨x, hx, rfl⟩ := List.mem_map.mp he
      have := h.key x hx
      split <;> exact this
    · rcases List.mem_append.mp he with z | z
      · exact h.key e z
      · rw [List.mem_singleton.mp z]; exact hn
  · intro e he
    unfold putE at he
    split at he
    · obtain ⟨x, hx, rfl⟩ := List.mem_map.mp he
      have := h.fd x hx
      split
      · exact hf
      · exact this
    · rcases List.mem_append.mp he with z | z
      · exact h.fd e z
      · rw [List.mem_singleton.mp z]; exact hf
  · unfold putE
    split
    · rw [keys_map]; exact h.nd
    · rename_i c
      rw [List.map_append, List.nodup_append]
      refine ⟨h.nd, by simp, ?_⟩
      rintro a ha b hb rfl
      have : a = n := by simpa using hb
      subst this
      obtain ⟨e, he, rfl⟩ := List.mem_map.mp ha
      exact c (List.any_eq_true.mpr ⟨e, he, decide_eq_true rfl⟩)
theorem EsOk.drop {m n : Nat} {es : Ent} (h : EsOk m es) : EsOk m (dropE es n) :=
  ⟨Nat.le_trans (List.length_filter_le _ _) h.len, fun e he => h.key e (List.mem_filter.mp he).1, fun e he => h.fd e (List.mem_filter.mp he).1, (List.Sublist.map _ List.filter_sublist).nodup h.nd⟩
theorem EsOk.mono {m m' : Nat} {es : Ent} (h : EsOk m es) (l : m ≤ m') : EsOk m' es := ⟨Nat.le_trans h.len l, h.key, h.fd, h.nd⟩
theorem look_put (es : Ent) (n : Nat) (f : Fd) : lookE (putE es n f) n = some f := by
  unfold putE
  split
  · rename_i c
    induction es with
    | nil => cases c
    | cons e es ih =>
      rw [List.map_cons]
      by_cases d : e.1 = n
      · unfold lookE; rw [if_pos d, List.find?_cons, decide_eq_true d]; rfl
      · rw [List.any_cons, decide_eq_false d, Bool.false_or] at c
        have := ih c
        unfold lookE at this ⊢
        rw [if_neg d, List.find?_cons, decide_eq_false d]
        exact this
  · rename_i c
    induction es with
    | nil => unfold lookE; rw [List.nil_append, List.find?_cons, decide_eq_true rfl]; rfl
    | cons e es ih =>
      rw [List.any_cons, Bool.or_eq_true, not_or] at c
      have d : ¬ e.1 = n := fun z => c.1 (decide_eq_true z)
      have := ih c.2
      unfold lookE at this ⊢
      rw [List.cons_append, List.find?_cons, decide_eq_false d]
      exact this
theorem look_some_iff {es : Ent} (nd : (es.map (·.1)).Nodup) {n : Nat} {f : Fd} : lookE es n = some f ↔ (n, f) ∈ es := by
  induction es with
  | nil => simp [lookE]
  | cons e es ih =>
    rw [List.map_cons, List.nodup_cons] at nd
    have ih := ih nd.2
    unfold lookE at ih ⊢
    rw [List.find?_cons]
    by_cases c : e.1 = n
    · rw [decide_eq_true c]
      constructor
      · intro h
        have h2 : e.2 = f := Option.some.inj h
        rw [← c, ← h2]; exact List.mem_cons_self ..
      · intro h
        rcases List.mem_cons.mp h with h | h
        · rw [← h]; rfl
        · exact absurd (List.mem_map.mpr ⟨_, h, rfl⟩) (by rw [c] at nd; exact nd.1)
    · rw [decide_eq_false c]
      refine ih.trans ⟨fun h => List.mem_cons_of_mem _ h, fun h => ?_⟩
      rcases List.mem_cons.mp h with h | h
      · exact absurd (by rw [← h]) c
      · exact h
theorem nd_rev {l : List Nat} (h : l.Nodup) : l.reverse.Nodup := List.pairwise_reverse.mpr (List.Pairwise.imp (fun h => Ne.symm h) h)
theorem look_rev {es : Ent} (nd : (es.map (·.1)).Nodup) (n : Nat) : lookE es.reverse n = lookE es n := by
  have nd2 : (es.reverse.map (·.1)).Nodup := by rw [List.map_reverse]; exact nd_rev nd
  cases h : lookE es n with
  | some f =>
    exact (look_some_iff nd2).mpr (List.mem_reverse.mpr ((look_some_iff nd).mp h))
  | none =>
    cases h2 : lookE es.reverse n with
    | none => rfl
    | some f =>
      have := (look_some_iff nd).mpr (List.mem_reverse.mp ((look_some_iff nd2).mp h2))
      rw [h] at this; cases this
theorem EsOk.rev {m : Nat} {es : Ent} (h : EsOk m es) : EsOk m es.reverse :=
  ⟨by rw [List.length_reverse]; exact h.len, fun e he => h.key e (List.mem_reverse.mp he), fun e he => h.fd e (List.mem_reverse.mp he), by rw [List.map_reverse]; exact nd_rev h.nd⟩
/-- a dict of pairs whose keys differ -/
theorem merge_app : ∀ (more acc : List (Key × V)), ((acc ++ more).map (·.1)).Nodup → mergeK acc more = acc ++ more
  | [], acc, _ => by rw [List.append_nil]; rfl
  | kv :: more, acc, h => by
    have h1 : valV acc kv.1 = none := by
      rw [List.map_append, List.map_cons, List.nodup_append] at h
      unfold valV
      rw [Option.map_eq_none_iff, List.find?_eq_none]
      intro x hx z
      exact h.2.2 x.1 (List.mem_map.mpr ⟨x, hx, rfl⟩) kv.1 (List.mem_cons_self ..) (of_decide_eq_true z)
    show mergeK (putK acc kv.1 kv.2) more = _
    rw [putK_new _ h1]
    have := merge_app more (acc ++ [(kv.1, kv.2)]) (by rw [List.append_assoc]; exact h)
    rw [this, List.append_assoc]
    rfl
theorem keys_nd {K : PySem.W.Frag} {H : Hp} {kvs : List (Key × V)} {es : Ent} (h : Paired (PrV K H) kvs es) (nd : (es.map (·.1)).Nodup) : (kvs.map (·.1)).Nodup := by
  have e : kvs.map (·.1) = (es.map (·.1)).map nkey := by
    induction h with
    | nil => rfl
    | cons h t ih =>
      rw [List.map_cons, List.nodup_cons] at nd
      rw [List.map_cons, List.map_cons, List.map_cons, ih nd.2, h.1]
  rw [e]
  clear e h
  induction es with
  | nil => exact List.nodup_nil
  | cons x xs ih =>
    rw [List.map_cons, List.nodup_cons] at nd
    rw [List.map_cons, List.map_cons, List.nodup_cons]
    refine ⟨fun z => ?_, ih nd.2⟩
    obtain ⟨y, hy, e⟩ := List.mem_map.mp z
    exact nd.1 (nkey_inj e ▸ hy)
/-! ### what a block says -/
def said1 (F : List Fd) (es : Ent) : Ln → Option Fd
  | .fix1 n => F[n]?
  | .fix2 n x => (F[n]?).map fun f => (f.1, x)
  | .ent1 n => lookE es n
  | .ent2 n x => (lookE es n).map fun f => (f.1, x)
  | .out y x => some (y, x)
def saidL (F : List Fd) (es : Ent) : List Ln → Option (List Fd)
  | [] => some []
  | l :: ls => match said1 F es l with
    | none => none
    | some f => (saidL F es ls).map (f :: ·)
theorem said1_congr {F : List Fd} {es es' : Ent} (h : ∀ n, lookE es' n = lookE es n) (l : Ln) : said1 F es' l = said1 F es l := by
  cases l with
  | fix1 n => rfl
  | fix2 n x => rfl
  | ent1 n => exact h n
  | ent2 n x => show (lookE es' n).map _ = _; rw [h n]; rfl
  | out y x => rfl
theorem saidL_congr {F : List Fd} {es es' : Ent} (h : ∀ n, lookE es' n = lookE es n) : ∀ ls, saidL F es' ls = saidL F es ls
  | [] => rfl
  | l :: ls => by unfold saidL; rw [said1_congr h, saidL_congr h ls]
def resD : Option (List Fd) → PyData
  | none => .none
  | some fs => .tuple (fs.map fdat)
theorem saidL_len {F : List Fd} {es : Ent} : ∀ {ls : List Ln} {fs : List Fd}, saidL F es ls = some fs → fs.length = ls.length
  | [], fs, h => by cases h; rfl
  | l :: ls, fs, h => by
    unfold saidL at h
    cases e : said1 F es l with
    | none => rw [e] at h; cases h
    | some f =>
      rw [e] at h
      cases e2 : saidL F es ls with
      | none => simp only [e2] at h; cases h
      | some gs =>
        simp only [e2] at h
        cases h
        rw [List.length_cons, List.length_cons, saidL_len e2]
/-- the values of all lines: one is None, or all are fields -/
theorem said_all {K : PySem.W.Frag} {H : Hp} {F : List Fd} {es : Ent} : ∀ {ls : List Ln} {vs : List V}, Paired (fun v l => OFd K H v (said1 F es l)) vs ls →
    (saidL F es ls = none ∧ (∃ v ∈ vs, v = .non)) ∨ ∃ fs, saidL F es ls = some fs ∧ FdsV K H vs fs
  | _, _, .nil => .inr ⟨[], rfl, .nil⟩
  | l :: ls, v :: vs, .cons h t => by
    unfold saidL
    cases e : said1 F es l with
    | none => rw [e] at h; exact .inl ⟨rfl, v, List.mem_cons_self .., h⟩
    | some f =>
      rw [e] at h
      rcases said_all t with ⟨e2, w, hw, ew⟩ | ⟨fs, e2, hf⟩
      · refine .inl ⟨by simp only [e2]; rfl, w, List.mem_cons_of_mem _ hw, ew⟩
      · exact .inr ⟨f :: fs, by simp only [e2]; rfl, .cons h hf⟩
theorem LnV.ts {K : PySem.W.Frag} {H H' : Hp} {v : V} {l : Ln} (h : LnV K H v l) (t : TS H H') : LnV K H' v l := let ⟨a, e, s⟩ := h; ⟨a, e, t.tup s⟩
theorem LnsV.ts {K : PySem.W.Frag} {H H' : Hp} (t : TS H H') : ∀ {xs : List V} {ls : List Ln}, LnsV K H xs ls → LnsV K H' xs ls
  | _, _, .nil => .nil
  | _, _, .cons h s => .cons (h.ts t) (LnsV.ts t s)
theorem BlkV.ts {K : PySem.W.Frag} {H H' : Hp} {v : V} {b : Blk} (h : BlkV K H v b) (t : TS H H') : BlkV K H' v b := let ⟨a, u, xs, e, s1, s2, s3⟩ := h; ⟨a, u, xs, e, t.tup s1, t.tup s2, LnsV.ts t s3⟩
/-! ### None in a list of None and tuples -/
def NoT (K : PySem.W.Frag) (H : Hp) (z : V) : Prop := z = .non ∨ ∃ a xs, z = .ref a ∧ SqT K H a xs
theorem noT_any {K : PySem.W.Frag} {H : Hp} : ∀ {xs : List V} {us : List Value}, Vals xs us → (∀ z ∈ xs, NoT K H z) → us.any PySem.Numpy.isNone = xs.any isNon
  | _, _, .nil, _ => rfl
  | x :: xs, u :: us, .cons r t, f => by
    rw [List.any_cons, List.any_cons, noT_any t fun z hz => f z (List.mem_cons_of_mem _ hz)]
    congr 1
    rcases f x (List.mem_cons_self ..) with rfl | ⟨a, ys, rfl, _⟩
    · cases r; rfl
    · cases r; rfl
def rNoneInT (K : PySem.W.Frag) : R2 := fun x y H Q => ∃ p xs, x = .non ∧ y = .ref p ∧ SqL K H p xs ∧ (∀ z ∈ xs, NoT K H z) ∧ Q (.bl (xs.any isNon)) H
theorem noT_mem {X : Cx} {A : Around} {pins : List (Addr × Obj)} {σ : L2.St} {H : Hp} {s : Shared} (I : Inv X pins σ H s) (hu : A.units < cLine) : ∀ {xs : List V} {us : List Value}, Vals xs us → (∀ z ∈ xs, NoT X.K H z) → ∀ u ∈ us, SeqAt.EqAt A s u .none (PySem.Numpy.isNone u)
  | _, _, .nil, _ => fun u hu' => nomatch hu'
  | y :: xs, u :: us, .cons r t, f => fun u' hu' => by
    rcases List.mem_cons.mp hu' with e | hu'
    · subst e
      rcases f y (List.mem_cons_self ..) with rfl | ⟨a, ys, rfl, h⟩
      · cases r; exact SeqAt.EqAt.same _
      · cases r
        obtain ⟨its, rv, pl, _⟩ := I.tuple h
        exact SeqAt.EqAt.tuple_none pl hu
    · exact noT_mem I hu t (fun z hz => f z (List.mem_cons_of_mem _ hz)) u' hu'
theorem op_noneInT {X : Cx} (hu : X.A.units + 64 < cLine) : OpR X (compareOp .In) (rNoneInT X.K) := by
  intro pins s σ H x y v u Q I rx ry h
  obtain ⟨p, xs, rfl, rfl, hq, f, q⟩ := h
  cases rx
  cases ry
  obtain ⟨its, rv, hl, _⟩ := I.list hq
  have hu1 : X.A.in1.units < cLine := by show X.A.units + 1 < cLine; omega
  refine SeqAt.in_listAt PySem.Numpy.isNone hl.isList (fun z hz => noT_mem I hu1 rv f z (by simpa using hz)) ⟨.bl _, H, I, rfl, ?_⟩
  rw [show its.toArray.any PySem.Numpy.isNone = its.any PySem.Numpy.isNone by simp, noT_any rv f]
  exact q
end Fld
namespace Fld
open PySem PySem.Spec PyProof.Rows L2
def sp_are_entries (K : PySem.W.Frag) : Sp := fun vs H Q _ => ∃ (D : Addr) (es : Ent), vs = [.ref D] ∧ EntV K H D es ∧ EsOk 24 es ∧ ∀ H', Same H H' → Q (.bl true) H'
def sp_check_entries (K : PySem.W.Frag) : Sp := fun vs H Q _ => ∃ (D : Addr) (es : Ent), vs = [.ref D] ∧ EntV K H D es ∧ EsOk 24 es ∧ ∀ H', Same H H' → Q .non H'
def sp_check_setting (K : PySem.W.Frag) : Sp := fun vs H Q _ => ∃ (v : V) (F : List Fd) (r w : Nat), vs = [v] ∧ SetV K H v F r w ∧ SetOk F r w ∧ ∀ H', Same H H' → Q .non H'
/-- fixed fields and entries -/
structure TabV (K : PySem.W.Frag) (H : Hp) (t D : Addr) (F : List Fd) (es : Ent) : Prop where
  fx : ∃ xs, SqT K H t xs ∧ FdsV K H xs F
  en : EntV K H D es
theorem TabV.ts {K : PySem.W.Frag} {H H' : Hp} {t D : Addr} {F : List Fd} {es : Ent} (h : TabV K H t D F es) (s : TS H H') (e : ∀ o, H D = some o → H' D = some o) : TabV K H' t D F es :=
  ⟨let ⟨xs, a, b⟩ := h.fx; ⟨xs, s.tup a, b.ts s⟩, h.en.ts s e⟩
theorem TabV.same {K : PySem.W.Frag} {H H' : Hp} {t D : Addr} {F : List Fd} {es : Ent} (h : TabV K H t D F es) (s : Same H H') : TabV K H' t D F es := h.ts (.of s) fun o e => s _ _ e
def sp_referred (K : PySem.W.Frag) : Sp := fun vs H Q _ => ∃ (t D : Addr) (F : List Fd) (es : Ent) (k : Str) (n : Nat), vs = [.ref t, .ref D, .str k, .int n] ∧ TabV K H t D F es ∧
  ((k = "fixed" ∧ ∀ v, OFd K H v (F[n]?) → Q v H) ∨ (k = "entry" ∧ ∀ v, OFd K H v (lookE es n) → Q v H))
def sp_said_field (K : PySem.W.Frag) : Sp := fun vs H Q _ => ∃ (t D : Addr) (F : List Fd) (es : Ent) (v : V) (l : Ln), vs = [.ref t, .ref D, v] ∧ TabV K H t D F es ∧ LnV K H v l ∧ ∀ r H', Same H H' → OFd K H' r (said1 F es l) → Q r H'
def sp_said_fields (K : PySem.W.Frag) : Sp := fun vs H Q _ => ∃ (t D u : Addr) (F : List Fd) (es : Ent) (ys : List V) (ls : List Ln), vs = [.ref t, .ref D, .ref u] ∧ TabV K H t D F es ∧ SqT K H u ys ∧ LnsV K H ys ls ∧ ls.length ≤ 16 ∧
  ∀ r H', Same H H' → Dp K H' r (resD (saidL F es ls)) → Q r H'
def sp_says (K : PySem.W.Frag) : Sp := fun vs H Q _ => ∃ (sv bv : V) (D : Addr) (F : List Fd) (r w : Nat) (es : Ent) (b : Blk), vs = [sv, .ref D, bv] ∧ SetV K H sv F r w ∧ SetOk F r w ∧ EntV K H D es ∧ EsOk 24 es ∧ BlkV K H bv b ∧ b.Ok ∧
  ∀ rv H', Same H H' → Dp K H' rv (resD (saidL F es b.ls)) → Q rv H'
theorem look_mem {es : Ent} {n : Nat} {f : Fd} (h : lookE es n = some f) : (n, f) ∈ es := by
  unfold lookE at h
  rw [Option.map_eq_some_iff] at h
  obtain ⟨e, h1, h2⟩ := h
  have h3 := List.mem_of_find?_eq_some h1
  have h4 : e.1 = n := by have := List.find?_some h1; simpa using this
  subst h4 h2; exact h3
theorem look_has {es : Ent} {n : Nat} {f : Fd} (h : (n, f) ∈ es) : ∃ g, lookE es n = some g := by
  cases e : lookE es n with
  | some g => exact ⟨g, rfl⟩
  | none =>
    unfold lookE at e
    rw [Option.map_eq_none_iff, List.find?_eq_none] at e
    exact absurd (decide_eq_true rfl) (e _ h)
theorem lim_fd {f : Fd} (h : FdOk f) : Lim (fdat f) := ⟨(sz_fd h).ok, by have := (sz_fd h).w; omega⟩
theorem lim_set {F : List Fd} {r w : Nat} (h : SetOk F r w) : Lim (sdat F r w) := ⟨(sz_set h).ok, by have := (sz_set h).w; omega⟩
end Fld
namespace Fld
open PySem PySem.Spec PyProof.Rows L2
theorem saidL_none {F : List Fd} {es : Ent} {l : Ln} : ∀ {ls : List Ln}, l ∈ ls → said1 F es l = none → saidL F es ls = none
  | k :: ls, h, e => by
    unfold saidL
    rcases List.mem_cons.mp h with rfl | h
    · rw [e]
    · cases said1 F es k with
      | none => rfl
      | some f => simp only [saidL_none h e]; rfl
def SomeFd (K : PySem.W.Frag) (H : Hp) (F : List Fd) (es : Ent) (v : V) (l : Ln) : Prop := ∃ f, said1 F es l = some f ∧ FdV K H v f
theorem SomeFd.ts {K : PySem.W.Frag} {H H' : Hp} {F : List Fd} {es : Ent} {v : V} {l : Ln} (h : SomeFd K H F es v l) (t : TS H H') : SomeFd K H' F es v l := let ⟨f, e, g⟩ := h; ⟨f, e, g.ts t⟩
theorem saidL_some {K : PySem.W.Frag} {H : Hp} {F : List Fd} {es : Ent} : ∀ {ls : List Ln} {vs : List V}, Paired (SomeFd K H F es) vs ls → ∃ fs, saidL F es ls = some fs ∧ FdsV K H vs fs
  | _, _, .nil => ⟨[], rfl, .nil⟩
  | l :: ls, v :: vs, .cons ⟨f, e, h⟩ t => by
    obtain ⟨fs, e2, h2⟩ := saidL_some t
    exact ⟨f :: fs, by unfold saidL; rw [e]; simp only [e2]; rfl, .cons h h2⟩
def sp_near_field (K : PySem.W.Frag) : Sp := fun vs H Q _ => ∃ (p c : Addr) (n : Nat), vs = [.ref p] ∧ Pen H p c n ∧ n ≤ 700000 ∧ ∀ v f H', FdV K H' v f → FdOk f → Drew p c H H' (n + 110) → Q v H'
def sp_draw_setting (K : PySem.W.Frag) : Sp := fun vs H Q _ => ∃ (p c : Addr) (n : Nat), vs = [.ref p] ∧ Pen H p c n ∧ n ≤ 600000 ∧ ∀ v F r w H', SetV K H' v F r w → SetOk F r w → Drew p c H H' (n + 1500) → Q v H'
def sp_law_said (K : PySem.W.Frag) : Sp := fun vs H Q _ => ∃ (t D : Addr) (bv : V) (F : List Fd) (es : Ent) (b : Blk), vs = [.ref t, .ref D, bv] ∧ TabV K H t D F es ∧ BlkV K H bv b ∧ b.ls.length ≤ 16 ∧
  ∀ r H', Same H H' → Dp K H' r (resD (saidL F es b.ls)) → Q r H'
def sp_draw_entries (K : PySem.W.Frag) : Sp := fun vs H Q _ => ∃ (p c : Addr) (n : Nat), vs = [.ref p] ∧ Pen H p c n ∧ n ≤ 600000 ∧ ∀ D es H', H D = none → EntV K H' D es → EsOk 24 es → (∀ e ∈ es, e.1 ≤ 39) → Drew p c H H' (n + 4000) → Q (.ref D) H'
def sp_draw_lines (K : PySem.W.Frag) : Sp := fun vs H Q _ => ∃ (p c t D : Addr) (n req : Nat) (F : List Fd) (es : Ent), vs = [.ref p, .ref t, .ref D, .int req] ∧ Pen H p c n ∧ n ≤ 600000 ∧ TabV K H t D F es ∧ F.length ≤ 12 ∧ EsOk 24 es ∧ req ≤ 41 ∧
  ∀ u ys ls H', SqT K H' u ys → LnsV K H' ys ls → (∀ l ∈ ls, l.Ok req) → ls.length ≤ 16 → Drew p c H H' (n + 4000) → Q (.ref u) H'
def nearNames : List Str := ["a", "ab", "path", ":method", "x"]
def nearVals : List Str := ["", "1", "get", "x=1", "on"]
theorem near_ok : (nearNames.all fun z => txt (.str z) 1 20) = true ∧ (nearVals.all fun z => txt (.str z) 0 40) = true := by constructor <;> decide +kernel
end Fld
namespace Fld
open PySem PySem.Spec PyProof.Rows L2
theorem keys_inl {K : PySem.W.Frag} {H : Hp} : ∀ {kvs : List (Key × V)} {es : Ent}, Paired (PrV K H) kvs es → kvs.map (·.1) = (es.map fun e => ((e.1 : Nat) : Int)).map Sum.inl
  | _, _, .nil => rfl
  | _, _, .cons h t => by rw [List.map_cons, List.map_cons, List.map_cons, keys_inl t, h.1]; rfl
theorem keys_kV {K : PySem.W.Frag} {H : Hp} : ∀ {kvs : List (Key × V)} {es : Ent}, Paired (PrV K H) kvs es → (kvs.map fun kv => kV kv.1) = (es.map fun e => ((e.1 : Nat) : Int)).map V.int
  | _, _, .nil => rfl
  | _, _, .cons h t => by rw [List.map_cons, List.map_cons, List.map_cons, keys_kV t, h.1]; rfl
/-- some lines to draw one of -/
structure SomeLn (K : PySem.W.Frag) (p c : Addr) (H5 H' : Hp) (L : Addr) (req N : Nat) : Prop where
  pen : Pen H' p c N
  but : But p H5 H'
  ex : ∃ xs, H' L = some (.lst xs) ∧ xs ≠ [] ∧ xs.length ≤ 2 ∧ ∀ x ∈ xs, ∃ l, LnV K H' x l ∧ l.Ok req
  ne : L ≠ p
theorem SomeLn.mono {K : PySem.W.Frag} {p c : Addr} {H5 H' : Hp} {L : Addr} {req N M : Nat} (h : SomeLn K p c H5 H' L req N) (l : N ≤ M) : SomeLn K p c H5 H' L req M := ⟨h.pen.mono l, h.but, h.ex, h.ne⟩
end Fld
/-! entries as data; what two dicts of the same entries say -/
namespace Fld
open PySem PySem.Spec PyProof.Rows L2
def ekv (es : Ent) : List (PyData × PyData) := es.map fun e => (PyData.int (e.1 : Nat), fdat e.2)
theorem ekv_keys {K : PySem.W.Frag} {H : Hp} : ∀ {kvs : List (Key × V)} {es : Ent}, Paired (PrV K H) kvs es → kvs.map (fun p => ofK p.1) = (ekv es).map (·.1)
  | _, _, .nil => rfl
  | _, _, .cons h t => by
    unfold ekv
    rw [List.map_cons, List.map_cons, List.map_cons, ekv_keys t, h.1]; rfl
theorem ekv_vals {K : PySem.W.Frag} {H : Hp} : ∀ {kvs : List (Key × V)} {es : Ent}, Paired (PrV K H) kvs es → DvAll K H (kvs.map (·.2)) ((ekv es).map (·.2))
  | _, _, .nil => .nil
  | _, _, .cons h t => .cons (.ofDp h.2.dp) (ekv_vals t)
theorem EntV.dv {K : PySem.W.Frag} {H : Hp} {D : Addr} {es : Ent} (h : EntV K H D es) : Dv K H (.ref D) (.dict (ekv es)) := by
  obtain ⟨kvs, hD, hp⟩ := h
  exact .dic hD (ekv_keys hp) (ekv_vals hp)
theorem sz_kv : ∀ {es : Ent}, (∀ e ∈ es, e.1 ≤ 40 ∧ FdOk e.2) → okVKv (ekv es) = true ∧ wVKv (ekv es) ≤ 1716 * es.length ∧ PyData.depthKv (ekv es) ≤ 1
  | [], _ => ⟨by unfold ekv; rw [List.map_nil, okVKv], by unfold ekv; rw [List.map_nil, wVKv]; omega, by unfold ekv; rw [List.map_nil, PyData.depthKv]; omega⟩
  | e :: es, h => by
    obtain ⟨h1, h2, h3⟩ := sz_kv (es := es) fun x hx => h x (List.mem_cons_of_mem _ hx)
    obtain ⟨k40, fok⟩ := h e (List.mem_cons_self ..)
    have z := sz_fd fok
    have zi : Sz 1010 0 (.int (e.1 : Nat)) := sz_int (by have h3 : (200 : Nat) < 2 ^ 1000 := by decide +kernel
                                                         omega)
    have e0 : ekv (e :: es) = (PyData.int (e.1 : Nat), fdat e.2) :: ekv es := rfl
    rw [e0]
    refine ⟨by rw [okVKv, zi.ok, z.ok, h1]; rfl, ?_, ?_⟩
    · rw [wVKv, List.length_cons]; have := zi.w; have := z.w; omega
    · rw [PyData.depthKv]; have := zi.dp; have := z.dp; omega
theorem sz_ent {m : Nat} {es : Ent} (h : EsOk m es) (hm : m ≤ 40) : Sz 80000 2 (.dict (ekv es)) := by
  obtain ⟨h1, h2, h3⟩ := sz_kv (es := es) fun e he => ⟨h.key e he, h.fd e he⟩
  have hl := h.len
  have : 1716 * es.length ≤ 1716 * 40 := Nat.mul_le_mul_left _ (by omega)
  exact ⟨by rw [okV]; exact h1, by rw [wV]; omega, by rw [PyData.depth]; omega⟩
theorem sz_ln {r : Nat} {l : Ln} (hr : r ≤ 9999) (ok : l.Ok r) : Sz 1500 1 l.dat := by
  have hi : ∀ n : Nat, n ≤ 9999 → Sz 1010 0 (.int (n : Nat)) := fun n h => sz_int (Nat.lt_of_le_of_lt (show n ≤ 9999 from h) (by decide +kernel))
  have hx : ∀ {x : Str}, txt (.str x) 0 40 = true → Sz 402 0 (.str x) := fun h => sz_txt (b := 40) h
  have hy : ∀ {x : Str}, txt (.str x) 1 20 = true → Sz 202 0 (.str x) := fun h => sz_txt (b := 20) h
  have f5 : Sz 52 0 (.str "fixed") := ⟨by decide, by decide, by decide⟩
  have e5 : Sz 52 0 (.str "entry") := ⟨by decide, by decide, by decide⟩
  have o3 : Sz 32 0 (.str "out") := ⟨by decide, by decide, by decide⟩
  have two : ∀ {a b : PyData}, Sz 52 0 a → Sz 1010 0 b → Sz 1500 1 (.tuple [a, b]) := fun ha hb =>
    sz_tup' (k := 0) (by rw [okVAll, okVAll, okVAll, ha.ok, hb.ok]; rfl) (by rw [wVAll, wVAll, wVAll]; have := ha.w; have := hb.w; omega) (by rw [PyData.depthAll, PyData.depthAll, PyData.depthAll]; have := ha.dp; have := hb.dp; omega)
  have tri : ∀ {a b d : PyData}, Sz 52 0 a → Sz 1010 0 b → Sz 402 0 d → Sz 1500 1 (.tuple [a, b, d]) := fun ha hb hd =>
    sz_tup' (k := 0) (by rw [okVAll, okVAll, okVAll, okVAll, ha.ok, hb.ok, hd.ok]; rfl) (by rw [wVAll, wVAll, wVAll, wVAll]; have := ha.w; have := hb.w; have := hd.w; omega) (by rw [PyData.depthAll, PyData.depthAll, PyData.depthAll, PyData.depthAll]; have := ha.dp; have := hb.dp; have := hd.dp; omega)
  cases l with
  | fix1 n => exact two f5 (hi n ok)
  | ent1 n => exact two e5 (hi n (by have : n < r := ok; omega))
  | fix2 n x => exact tri f5 (hi n ok.1) (hx ok.2)
  | ent2 n x => exact tri e5 (hi n (by have := ok.1; omega)) (hx ok.2)
  | out y x => exact tri (o3.mono (by omega) (by omega)) ((hy ok.1).mono (by omega) (by omega)) (hx ok.2)
theorem sz_b3 {r b : Nat} {ls : List Ln} (hr : r ≤ 9999) (hb : b ≤ 9999) (hl : ls.length ≤ 16) (ok : ∀ l ∈ ls, ∃ q, q ≤ 9999 ∧ l.Ok q) : Sz 26100 3 (.tuple [.int (r : Nat), .int (b : Nat), .tuple (ls.map Ln.dat)]) := by
  have hi : ∀ n : Nat, n ≤ 9999 → Sz 1010 0 (.int (n : Nat)) := fun n h => sz_int (Nat.lt_of_le_of_lt (show n ≤ 9999 from h) (by decide +kernel))
  have each : ∀ d ∈ ls.map Ln.dat, Sz 1500 1 d := fun d hd => by
    obtain ⟨l, hl, rfl⟩ := List.mem_map.mp hd
    obtain ⟨q, hq, o⟩ := ok l hl
    exact sz_ln hq o
  have z : Sz 24040 2 (.tuple (ls.map Ln.dat)) := by
    refine sz_tup' (k := 1) (okVAll_of fun d hd => (each d hd).ok) ?_ (depthAll_le fun d hd => (each d hd).dp)
    have : ∀ l : List PyData, (∀ d ∈ l, wV d ≤ 1500) → wVAll l ≤ 1502 * l.length := by
      intro l
      induction l with
      | nil => intro _; rw [wVAll]; omega
      | cons x l ih =>
        intro hh
        have := ih fun d hd => hh d (List.mem_cons_of_mem _ hd)
        have := hh x (List.mem_cons_self ..)
        rw [wVAll, List.length_cons]; omega
    have := this (ls.map Ln.dat) fun d hd => (each d hd).w
    rw [List.length_map] at this
    omega
  have h1 := hi r hr
  have h2 := hi b hb
  refine sz_tup' (k := 2) (by rw [okVAll, okVAll, okVAll, okVAll, h1.ok, h2.ok, z.ok]; rfl) (by rw [wVAll, wVAll, wVAll, wVAll]; have := h1.w; have := h2.w; have := z.w; omega) ?_
  rw [PyData.depthAll, PyData.depthAll, PyData.depthAll, PyData.depthAll]
  have := h1.dp; have := h2.dp; have := z.dp; omega
theorem noLst_lns : ∀ ls : List Ln, noLstAll (ls.map Ln.dat) = true
  | [] => rfl
  | l :: ls => by
    show (noLst l.dat && noLstAll (ls.map Ln.dat)) = true
    rw [noLst_lns ls]
    cases l <;> rfl
theorem sz_blk {b : Blk} (ok : b.Ok) : Sz 26100 3 b.dat := sz_b3 ok.req_ (by have := ok.req_; have := ok.base_; omega) ok.len_ fun l hl => ⟨_, ok.req_, ok.lns_ l hl⟩
/-- what two reads of the same entries give -/
theorem dle_res {o : Option (List Fd)} (n : Nat) (h : ∀ fs, o = some fs → fs.length ≤ 16) : DLe (n + 2) (resD o) := by
  cases o with
  | none => exact True.intro
  | some fs =>
    have := h fs rfl
    refine ⟨by rw [List.length_map]; omega, fun d hd => ?_⟩
    obtain ⟨f, _, rfl⟩ := List.mem_map.mp hd
    refine ⟨by show 2 ≤ 100000; omega, fun e he => ?_⟩
    simp only [List.mem_cons, List.not_mem_nil, or_false] at he
    rcases he with rfl | rfl <;> (cases n <;> simp [DLe])
/-- pairs made of a dict, from its end: all as they were -/
theorem prs_paired {K : PySem.W.Frag} {H : Hp} : ∀ {ps : List Addr} {kvs : List (Key × V)}, Paired (fun p (kv : Key × V) => SqT K H p [kV kv.1, kv.2]) ps kvs → ps.length = kvs.length
  | _, _, .nil => rfl
  | _, _, .cons _ t => by rw [List.length_cons, List.length_cons, prs_paired t]
end Fld
namespace Fld
open PySem PySem.Spec PyProof.Rows L2
theorem val_mem {κ : Type} [DecidableEq κ] : ∀ {kvs : List (κ × V)} {kv : κ × V}, (kvs.map (·.1)).Nodup → kv ∈ kvs → valV kvs kv.1 = some kv.2
  | x :: kvs, kv, nd, h => by
    rw [List.map_cons, List.nodup_cons] at nd
    rcases List.mem_cons.mp h with rfl | h
    · exact valV_pos rfl
    · rw [valV_neg fun z => nd.1 (List.mem_map.mpr ⟨kv, h, z.symm⟩)]
      exact val_mem nd.2 h
end Fld
namespace Fld
open PySem PySem.Spec PyProof.Rows L2
/-- a start of a list: of no items, or of two -/
theorem cut_two (xs : List V) (b : Bool) : cutV xs none (some (2 * (if b = true then 1 else 0))) = xs.take (2 * b.toNat) := by
  cases b
  · exact cut_to xs 0
  · exact cut_to xs 2
end Fld
/-! the table: its mirror, its object, what its calls promise -/
namespace Fld
open PySem PySem.Spec PyProof.Rows L2
def fsz (f : Fd) : Nat := f.1.length + f.2.length + 4
def sumE (es : Ent) : Nat := (es.map fun e => fsz e.2).sum
def keepE (b m : Nat) : Ent → Ent
  | [] => []
  | e :: es => if m + sumE (e :: es) ≤ b then e :: es else keepE b m es
def goneE (b m : Nat) : Ent → Ent
  | [] => []
  | e :: es => if m + sumE (e :: es) ≤ b then [] else e :: goneE b m es
theorem sumE_cons (e : Nat × Fd) (es : Ent) : sumE (e :: es) = fsz e.2 + sumE es := by unfold sumE; rw [List.map_cons, List.sum_cons]
theorem sumE_app (es fs : Ent) : sumE (es ++ fs) = sumE es + sumE fs := by
  induction es with
  | nil => rw [List.nil_append]; show _ = 0 + _; omega
  | cons e es ih => rw [List.cons_append, sumE_cons, sumE_cons, ih]; omega
theorem gone_keep (b m : Nat) : ∀ es : Ent, goneE b m es ++ keepE b m es = es
  | [] => rfl
  | e :: es => by
    unfold goneE keepE
    by_cases c : m + sumE (e :: es) ≤ b
    · rw [if_pos c, if_pos c]; rfl
    · rw [if_neg c, if_neg c, List.cons_append, gone_keep b m es]
theorem gone_take {b m : Nat} : ∀ (es : Ent) (i : Nat), i ≤ es.length → (∀ j, j < i → ¬ m + sumE (es.drop j) ≤ b) → (i = es.length ∨ m + sumE (es.drop i) ≤ b) → goneE b m es = es.take i ∧ keepE b m es = es.drop i
  | [], i, h, _, _ => by
    have : i = 0 := by simpa using h
    subst this; exact ⟨rfl, rfl⟩
  | e :: es, 0, _, _, h => by
    rcases h with h | h
    · cases h
    · have h' : m + sumE (e :: es) ≤ b := h
      unfold goneE keepE
      rw [if_pos h', if_pos h']
      exact ⟨rfl, rfl⟩
  | e :: es, i + 1, hl, hj, h => by
    have h0 : ¬ m + sumE (e :: es) ≤ b := hj 0 (by omega)
    obtain ⟨h1, h2⟩ := gone_take es i (by simpa using hl) (fun j hj' => hj (j + 1) (by omega)) (by
      rcases h with h | h
      · exact .inl (by simpa using h)
      · exact .inr h)
    unfold goneE keepE
    rw [if_neg h0, if_neg h0, h1, h2]
    exact ⟨rfl, rfl⟩
theorem keep_sum {b m : Nat} (hm : m ≤ b) : ∀ es : Ent, m + sumE (keepE b m es) ≤ b
  | [] => by show m + 0 ≤ b; omega
  | e :: es => by
    unfold keepE
    split
    · assumption
    · exact keep_sum hm es
theorem keep_sub (b m : Nat) (es : Ent) : (keepE b m es).Sublist es := by
  have h := gone_keep b m es
  have := List.sublist_append_right (goneE b m es) (keepE b m es)
  rwa [h] at this
structure Tb where
  bound : Nat
  made : Nat
  es : Ent
structure TbOk (r : Nat) (t : Tb) : Prop where
  rm : r ≤ 120
  bd : t.bound ≤ r
  sum : sumE t.es ≤ t.bound
  asc : (t.es.map (·.1)).Pairwise (· < ·)
  lt : ∀ e ∈ t.es, e.1 < t.made
  mad : t.made ≤ 9999
  fd : ∀ e ∈ t.es, FdOk e.2
theorem fsz_ge {f : Fd} (h : FdOk f) : 5 ≤ fsz f ∧ fsz f ≤ 64 := by
  have h1 : (decide ((1 : Int) ≤ (f.1.length : Int)) && decide ((f.1.length : Int) ≤ 20) && f.1.cps.toList.all isChar) = true := h.n
  have h2 := txt_len h.v
  simp only [Bool.and_eq_true, decide_eq_true_eq] at h1
  unfold fsz
  omega
theorem sum_len : ∀ {es : Ent}, (∀ e ∈ es, FdOk e.2) → 5 * es.length ≤ sumE es
  | [], _ => Nat.le_refl _
  | e :: es, h => by
    have := sum_len (es := es) fun x hx => h x (List.mem_cons_of_mem _ hx)
    have := (fsz_ge (h e (List.mem_cons_self ..))).1
    rw [sumE_cons, List.length_cons]; omega
theorem TbOk.len {r : Nat} {t : Tb} (h : TbOk r t) : t.es.length ≤ 24 := by
  have := sum_len h.fd
  have := h.sum
  have := h.bd
  have := h.rm
  omega
theorem TbOk.nd {r : Nat} {t : Tb} (h : TbOk r t) : (t.es.map (·.1)).Nodup := List.Pairwise.imp (fun h => Nat.ne_of_lt h) h.asc
def lookI (es : Ent) (z : Int) : Option Fd := if z < 0 then none else lookE es z.toNat
def insF (F : List Fd) (t : Tb) : Ins → Option Fd
  | .new y x => some (y, x)
  | .again n => lookI t.es ((t.made : Int) - 1 - (n : Int))
  | .fixed n x => (F[n]?).map fun f => (f.1, x)
  | .entry n x => (lookI t.es ((t.made : Int) - 1 - (n : Int))).map fun f => (f.1, x)
  | .limit _ => none
def putT (t : Tb) (f : Fd) : Tb := ⟨t.bound, t.made + 1, keepE t.bound (fsz f) t.es ++ [(t.made, f)]⟩
def roomT (t : Tb) (f : Fd) : Bool := decide (fsz f ≤ t.bound) && decide (t.made < 9999)
def stepT (F : List Fd) (r : Nat) (t : Tb) : Ins → Option Tb
  | .limit n => if n ≤ r then some ⟨n, t.made, keepE n 0 t.es⟩ else none
  | i => match insF F t i with
    | none => none
    | some f => if roomT t f = true then some (putT t f) else none
theorem look_mem2 {es : Ent} {z : Int} {f : Fd} (h : lookI es z = some f) : ∃ n, (n, f) ∈ es := by
  unfold lookI at h
  split at h
  · cases h
  · exact ⟨_, look_mem h⟩
theorem insF_ok {F : List Fd} {t : Tb} {i : Ins} {f : Fd} {r : Nat} (hF : ∀ f ∈ F, FdOk f) (h : TbOk r t) (hi : i.Ok) (e : insF F t i = some f) : FdOk f := by
  cases i with
  | new y x => cases e; exact ⟨hi.1, hi.2⟩
  | limit n => cases e
  | again n => obtain ⟨k, hk⟩ := look_mem2 e; exact h.fd _ hk
  | fixed n x =>
    obtain ⟨g, hg, rfl⟩ := Option.map_eq_some_iff.mp e
    exact ⟨(hF g (List.mem_of_getElem? hg)).n, hi.2⟩
  | entry n x =>
    obtain ⟨g, hg, rfl⟩ := Option.map_eq_some_iff.mp e
    obtain ⟨k, hk⟩ := look_mem2 hg
    exact ⟨(h.fd _ hk).n, hi.2⟩
theorem keep_ok {r b m : Nat} {t : Tb} (h : TbOk r t) : ((keepE b m t.es).map (·.1)).Pairwise (· < ·) ∧ (∀ e ∈ keepE b m t.es, e.1 < t.made) ∧ ∀ e ∈ keepE b m t.es, FdOk e.2 :=
  ⟨List.Pairwise.sublist (List.Sublist.map _ (keep_sub b m t.es)) h.asc, fun e he => h.lt e ((keep_sub b m t.es).subset he), fun e he => h.fd e ((keep_sub b m t.es).subset he)⟩
theorem TbOk.limit {r n : Nat} {t : Tb} (h : TbOk r t) (hn : n ≤ r) : TbOk r ⟨n, t.made, keepE n 0 t.es⟩ := by
  obtain ⟨h1, h2, h3⟩ := keep_ok (b := n) (m := 0) h
  exact ⟨h.rm, hn, by have := keep_sum (b := n) (m := 0) (by omega) t.es; show sumE (keepE n 0 t.es) ≤ n; omega, h1, h2, h.mad, h3⟩
theorem TbOk.put {r : Nat} {t : Tb} {f : Fd} (h : TbOk r t) (hf : FdOk f) (hr : roomT t f = true) : TbOk r (putT t f) := by
  obtain ⟨h1, h2, h3⟩ := keep_ok (b := t.bound) (m := fsz f) h
  unfold roomT at hr
  rw [Bool.and_eq_true, decide_eq_true_eq, decide_eq_true_eq] at hr
  refine ⟨h.rm, h.bd, ?_, ?_, ?_, by show t.made + 1 ≤ 9999; omega, ?_⟩
  · show sumE (keepE t.bound (fsz f) t.es ++ [(t.made, f)]) ≤ t.bound
    rw [sumE_app, sumE_cons]
    have := keep_sum hr.1 t.es
    show sumE (keepE t.bound (fsz f) t.es) + (fsz f + 0) ≤ t.bound
    omega
  · show ((keepE t.bound (fsz f) t.es ++ [(t.made, f)]).map (·.1)).Pairwise (· < ·)
    rw [List.map_append, List.pairwise_append]
    refine ⟨h1, by simp, ?_⟩
    intro a ha b hb
    obtain ⟨e, he, rfl⟩ := List.mem_map.mp ha
    have : b = t.made := by simpa using hb
    rw [this]; exact h2 e he
  · intro e he
    rcases List.mem_append.mp he with z | z
    · have := h2 e z; show e.1 < t.made + 1; omega
    · rw [List.mem_singleton.mp z]; show t.made < t.made + 1; omega
  · intro e he
    rcases List.mem_append.mp he with z | z
    · exact h3 e z
    · rw [List.mem_singleton.mp z]; exact hf
theorem TbOk.step {F : List Fd} {r : Nat} {t t' : Tb} {i : Ins} (hF : ∀ f ∈ F, FdOk f) (h : TbOk r t) (hi : i.Ok) (e : stepT F r t i = some t') : TbOk r t' := by
  have go : ∀ (o : Option Fd), (∀ f, o = some f → FdOk f) → (match o with | none => none | some f => if roomT t f = true then some (putT t f) else none) = some t' → TbOk r t' := by
    intro o ho e
    cases o with
    | none => cases e
    | some f =>
      simp only at e
      split at e
      · cases e; exact h.put (ho f rfl) (by assumption)
      · cases e
  cases i with
  | limit n =>
    unfold stepT at e
    simp only at e
    split at e
    · cases e; exact h.limit (by assumption)
    · cases e
  | new y x => exact go _ (fun f e2 => insF_ok hF h hi e2) e
  | again n => exact go _ (fun f e2 => insF_ok hF h hi e2) e
  | fixed n x => exact go _ (fun f e2 => insF_ok hF h hi e2) e
  | entry n x => exact go _ (fun f e2 => insF_ok hF h hi e2) e
/-- all instructions, or the number of the first that cannot be carried out -/
def runT (F : List Fd) (r : Nat) (t : Tb) (k : Nat) : List Ins → Except Nat Tb
  | [] => .ok t
  | i :: is => match stepT F r t i with
    | none => .error k
    | some t' => runT F r t' (k + 1) is
def tb0 (r : Nat) : Tb := ⟨r, 0, []⟩
theorem tb0_ok {r : Nat} (h : r ≤ 120) : TbOk r (tb0 r) := ⟨h, Nat.le_refl _, Nat.zero_le _, .nil, fun _ h => (nomatch h), by show 0 ≤ 9999; omega, fun _ h => (nomatch h)⟩
/-! ### lists of a dict -/
theorem dropE_head {e : Nat × Fd} {es : Ent} (h : ((e :: es).map (·.1)).Pairwise (· < ·)) : dropE (e :: es) e.1 = es := by
  rw [List.map_cons, List.pairwise_cons] at h
  unfold dropE
  rw [List.filter_cons, if_neg (by simp), List.filter_eq_self.mpr]
  intro x hx
  have := h.1 x.1 (List.mem_map.mpr ⟨x, hx, rfl⟩)
  exact decide_eq_true (by omega)
theorem putE_new {n : Nat} {f : Fd} {es : Ent} (h : ∀ e ∈ es, e.1 < n) : putE es n f = es ++ [(n, f)] := by
  unfold putE
  rw [if_neg]
  intro z
  obtain ⟨e, he, e2⟩ := List.any_eq_true.mp z
  have := h e he
  have := of_decide_eq_true e2
  omega
/-- these objects may have changed -/
def ButS (S : List Addr) (H H' : Hp) : Prop := ∀ b o, b ∉ S → H b = some o → H' b = some o
theorem ButS.of {S : List Addr} {H H' : Hp} (s : Same H H') : ButS S H H' := fun b o _ e => s b o e
theorem ButS.trans {S : List Addr} {H H1 H2 : Hp} (a : ButS S H H1) (b : ButS S H1 H2) : ButS S H H2 := fun c o n e => b c o n (a c o n e)
theorem ButS.mono {S S' : List Addr} {H H1 : Hp} (a : ButS S H H1) (h : ∀ b ∈ S, b ∈ S') : ButS S' H H1 := fun c o n e => a c o (fun z => n (h c z)) e
theorem ButS.set {S : List Addr} {H : Hp} {q : Addr} {o : HO} (h : q ∈ S) : ButS S H (upd H q o) := fun b u n e => by
  have nb : b ≠ q := fun z => n (by rw [z]; exact h)
  rw [upd_ne nb]; exact e
theorem ButS.ts {S : List Addr} {H H' : Hp} (b : ButS S H H') (h : ∀ a ∈ S, ∀ o, H a = some o → ¬ IsTupO o) : TS H H' := fun a u t e => by
  by_cases z : a ∈ S
  · exact absurd t (h a z u e)
  · exact b a u z e
/-- the table at a, its entries at D -/
def tfs (sv : V) (t : Tb) (D : Addr) : List (Str × V) := [("setting", sv), ("bound", .int (t.bound : Nat)), ("made", .int (t.made : Nat)), ("kept", .ref D)]
structure TblV (K : PySem.W.Frag) (C : Addr) (H : Hp) (a D : Addr) (sv : V) (F : List Fd) (r w : Nat) (t : Tb) : Prop where
  ob : ∃ dx, H a = some (.ins C dx (tfs sv t D))
  en : EntV K H D t.es
  st : SetV K H sv F r w
theorem TblV.ne {K : PySem.W.Frag} {C : Addr} {H : Hp} {a D : Addr} {sv : V} {F : List Fd} {r w : Nat} {t : Tb} (h : TblV K C H a D sv F r w t) : D ≠ a := by
  obtain ⟨dx, e⟩ := h.ob
  obtain ⟨kvs, e2, _⟩ := h.en
  intro z
  rw [z, e] at e2; cases e2
theorem TblV.same {K : PySem.W.Frag} {C : Addr} {H H' : Hp} {a D : Addr} {sv : V} {F : List Fd} {r w : Nat} {t : Tb} (h : TblV K C H a D sv F r w t) (s : Same H H') : TblV K C H' a D sv F r w t := by
  obtain ⟨dx, e⟩ := h.ob
  exact ⟨⟨dx, s _ _ e⟩, h.en.same s, h.st.ts (.of s)⟩
theorem TblV.nt {K : PySem.W.Frag} {C : Addr} {H : Hp} {a D : Addr} {sv : V} {F : List Fd} {r w : Nat} {t : Tb} (h : TblV K C H a D sv F r w t) : ∀ b ∈ [a, D], ∀ o, H b = some o → ¬ IsTupO o := by
  obtain ⟨dx, e⟩ := h.ob
  obtain ⟨kvs, e2, _⟩ := h.en
  intro b hb o ho
  simp only [List.mem_cons, List.not_mem_nil, or_false] at hb
  rcases hb with rfl | rfl
  · rw [e] at ho; cases ho; exact nt_ins
  · rw [e2] at ho; cases ho; exact nt_dK
def sp_entry_size (K : PySem.W.Frag) : Sp := fun vs H Q _ => ∃ (v : V) (f : Fd), vs = [v] ∧ FdV K H v f ∧ FdOk f ∧ Q (.int (fsz f : Nat)) H
def sp_Table_init (K : PySem.W.Frag) : Sp := fun vs H Q _ => ∃ (a C dx : Addr) (sv : V) (F : List Fd) (r w : Nat), vs = [.ref a, sv] ∧ H a = some (.ins C dx []) ∧ Cls K C ∧ NoAttr K C "setting" ∧ NoAttr K C "bound" ∧ NoAttr K C "made" ∧ NoAttr K C "kept" ∧ SetV K H sv F r w ∧
  ∀ D H', D ≠ a → H D = none → (∀ b, b ≠ a → b ≠ D → H' b = H b) → H' a = some (.ins C dx (tfs sv (tb0 r) D)) → H' D = some (.dK []) → Q .non H'
def sp_has_room (K : PySem.W.Frag) (C : Addr) : Sp := fun vs H Q _ => ∃ (a D : Addr) (sv v : V) (F : List Fd) (r w : Nat) (t : Tb) (f : Fd), vs = [.ref a, v] ∧ TblV K C H a D sv F r w t ∧ FdV K H v f ∧ FdOk f ∧ Q (.bl (roomT t f)) H
def eInts (es : Ent) : List V := es.map fun e => V.int ((e.1 : Nat) : Int)
def sp_leaving (K : PySem.W.Frag) (C : Addr) : Sp := fun vs H Q _ => ∃ (a D : Addr) (sv : V) (F : List Fd) (r w b m : Nat) (t : Tb), vs = [.ref a, .int b, .int m] ∧ TblV K C H a D sv F r w t ∧ TbOk r t ∧ m ≤ 1000 ∧ b ≤ 1000 ∧
  ∀ L H', H L = none → Same H H' → H' L = some (.lst (eInts (goneE b m t.es))) → Q (.ref L) H'
def sp_drop (K : PySem.W.Frag) (C : Addr) : Sp := fun vs H Q _ => ∃ (a D L : Addr) (sv : V) (F : List Fd) (r w b m : Nat) (t : Tb), vs = [.ref a, .ref L] ∧ TblV K C H a D sv F r w t ∧ TbOk r t ∧ H L = some (.lst (eInts (goneE b m t.es))) ∧
  ∀ H', ButS [D] H H' → EntV K H' D (keepE b m t.es) → Q .non H'
def sp_set_bound (K : PySem.W.Frag) (C : Addr) : Sp := fun vs H Q _ => ∃ (a D : Addr) (sv : V) (F : List Fd) (r w n : Nat) (t : Tb), vs = [.ref a, .int n] ∧ TblV K C H a D sv F r w t ∧ TbOk r t ∧
  (¬ n ≤ r → Q (.bl false) H) ∧ (n ≤ r → ∀ H', ButS [a, D] H H' → TblV K C H' a D sv F r w ⟨n, t.made, keepE n 0 t.es⟩ → Q (.bl true) H')
def sp_inserted (K : PySem.W.Frag) (C : Addr) : Sp := fun vs H Q _ => ∃ (a D : Addr) (sv v : V) (F : List Fd) (r w : Nat) (t : Tb) (i : Ins), vs = [.ref a, v] ∧ TblV K C H a D sv F r w t ∧ InsV K H v i ∧ (∀ n, i ≠ .limit n) ∧ F.length ≤ 12 ∧
  ∀ u H', Same H H' → OFd K H' u (insF F t i) → Q u H'
def sp_carry_out (K : PySem.W.Frag) (C : Addr) : Sp := fun vs H Q _ => ∃ (a D : Addr) (sv v : V) (F : List Fd) (r w : Nat) (t : Tb) (i : Ins), vs = [.ref a, v] ∧ TblV K C H a D sv F r w t ∧ TbOk r t ∧ SetOk F r w ∧ InsV K H v i ∧ i.Ok ∧
  (stepT F r t i = none → ∀ H', Same H H' → Q (.bl false) H') ∧ ∀ t', stepT F r t i = some t' → ∀ H', ButS [a, D] H H' → TblV K C H' a D sv F r w t' → Q (.bl true) H'
def sp_referredZ (K : PySem.W.Frag) : Sp := fun vs H Q _ => ∃ (t D : Addr) (F : List Fd) (es : Ent) (z : Int), vs = [.ref t, .ref D, .str "entry", .int z] ∧ TabV K H t D F es ∧ ∀ v, OFd K H v (lookI es z) → Q v H
def sp_said_fieldZ (K : PySem.W.Frag) : Sp := fun vs H Q _ => ∃ (t D u : Addr) (F : List Fd) (es : Ent) (z : Int) (x : Str), vs = [.ref t, .ref D, .ref u] ∧ TabV K H t D F es ∧ SqT K H u [.str "entry", .int z, .str x] ∧
  ∀ r H', Same H H' → OFd K H' r ((lookI es z).map fun f => (f.1, x)) → Q r H'
theorem look_int {K : PySem.W.Frag} {H : Hp} {z : Int} {kvs : List (Key × V)} {es : Ent} (h : Paired (PrV K H) kvs es) : (valV kvs (Sum.inl z) = none ∧ lookI es z = none) ∨ ∃ v f, valV kvs (Sum.inl z) = some v ∧ lookI es z = some f ∧ FdV K H v f := by
  unfold lookI
  by_cases c : z < 0
  · refine .inl ⟨?_, by rw [if_pos c]⟩
    induction h with
    | nil => rfl
    | cons h t ih =>
      rw [valV_neg (by rw [h.1]; intro e; have := Sum.inl.inj e; omega)]
      exact ih
  · rw [if_neg c]
    have e : (Sum.inl z : Key) = nkey z.toNat := by unfold nkey; congr 1; omega
    rw [e]
    exact look_get h
end Fld
namespace Fld
open PySem PySem.Spec PyProof.Rows L2
def fd0 : Nat × Fd := ((0 : Nat), (("" : Str), ("" : Str)))
theorem sum_ints : ∀ es : Ent, (es.map fun e => ((fsz e.2 : Nat) : Int)).sum = ((sumE es : Nat) : Int)
  | [] => rfl
  | e :: es => by rw [List.map_cons, List.sum_cons, sum_ints es, sumE_cons]; omega
theorem sum_range (es : Ent) : ((List.range es.length).map fun i => ((fsz (es.getD i fd0).2 : Nat) : Int)).sum = ((sumE es : Nat) : Int) := by
  rw [range_map es (fun e => ((fsz e.2 : Nat) : Int)) fd0, sum_ints]
theorem drop_at {es : Ent} {i : Nat} {e : Nat × Fd} (h : es[i]? = some e) : es.drop i = e :: es.drop (i + 1) := by
  obtain ⟨hlt, he⟩ := List.getElem?_eq_some_iff.mp h
  rw [List.drop_eq_getElem_cons hlt, he]
/-- a dict locked and set free again -/
theorem unlock {H H' : Hp} {D : Addr} {od : Obj} {u : HO} (hD : H D = some u) (s : Same (upd H D (.frz od u)) H') : Same H (upd H' D u) := fun b o e => by
  by_cases z : b = D
  · subst z; rw [upd_same]; rw [hD] at e; exact e
  · rw [upd_ne z]; exact s b o (by rw [upd_ne z]; exact e)
theorem FnOk_or {P : Program} {w : World} {K : PySem.W.Frag} {mg : Str → Option Value} {base : Heap} {CX : CXT} {k : Nat} {f : Addr} {fd : FuncData} {ps : List Str} {s1 s2 : Sp} (G1 : FnOk P w K mg base CX k f fd ps s1) (G2 : FnOk P w K mg base CX k f fd ps s2) :
    FnOk P w K mg base CX k f fd ps (fun vs H Q E => s1 vs H Q E ∨ s2 vs H Q E) :=
  ⟨fun vs H Q E h => h.elim (G1.1 vs H Q E) (G2.1 vs H Q E), fun a b c d e f g h i j k l m z => z.elim (G1.2 a b c d e f g h i j k l m) (G2.2 a b c d e f g h i j k l m)⟩
end Fld
namespace Fld
open PySem PySem.Spec PyProof.Rows L2
def kd : Ins → Str
  | .again _ => "again"
  | .limit _ => "limit"
  | .fixed _ _ => "fixed"
  | .entry _ _ => "entry"
  | .new _ _ => "new"
theorem kd_at (i : Ins) : atI i.vs 0 = some (.str (kd i)) := by cases i <;> rfl
theorem kd_no {i : Ins} (h : ∀ n, i ≠ .limit n) : decide (V.str (kd i) = V.str "limit") = false := by
  cases i with
  | limit n => exact absurd rfl (h n)
  | again n => show decide (V.str ("again" : Str) = V.str "limit") = false; decide
  | fixed n x => show decide (V.str ("fixed" : Str) = V.str "limit") = false; decide
  | entry n x => show decide (V.str ("entry" : Str) = V.str "limit") = false; decide
  | new y x => show decide (V.str ("new" : Str) = V.str "limit") = false; decide
theorem step_no {F : List Fd} {r : Nat} {t : Tb} {i : Ins} (h : ∀ n, i ≠ .limit n) : stepT F r t i = match insF F t i with | none => none | some f => if roomT t f = true then some (putT t f) else none := by
  cases i with
  | limit n => exact absurd rfl (h n)
  | again n => rfl
  | fixed n x => rfl
  | entry n x => rfl
  | new y x => rfl
theorem InsV.ts {K : PySem.W.Frag} {H H' : Hp} {v : V} {i : Ins} (h : InsV K H v i) (t : TS H H') : InsV K H' v i := let ⟨a, e, s⟩ := h; ⟨a, e, t.tup s⟩
abbrev InssV (K : PySem.W.Frag) (H : Hp) (xs : List V) (is : List Ins) : Prop := Paired (InsV K H) xs is
theorem InssV.ts {K : PySem.W.Frag} {H H' : Hp} {xs : List V} {is : List Ins} (h : InssV K H xs is) (t : TS H H') : InssV K H' xs is := pmap (fun _ _ z => z.ts t) h
theorem runT_ok {F : List Fd} {r : Nat} (hF : ∀ f ∈ F, FdOk f) : ∀ {is : List Ins} {t t' : Tb} {k : Nat}, TbOk r t → (∀ i ∈ is, i.Ok) → runT F r t k is = .ok t' → TbOk r t'
  | [], t, t', k, h, _, e => by cases e; exact h
  | i :: is, t, t', k, h, hi, e => by
    unfold runT at e
    cases c : stepT F r t i with
    | none => rw [c] at e; cases e
    | some u =>
      rw [c] at e
      exact runT_ok hF (h.step hF (hi i (List.mem_cons_self ..)) c) (fun j hj => hi j (List.mem_cons_of_mem _ hj)) e
/-- run_table over a setting and instructions -/
def RunRes (K : PySem.W.Frag) (N : Addr) (H : Hp) (Q : VK) (E : XK) : Except Nat Tb → Prop
  | .ok t => ∀ D p H', H D = none → H p = none → Same H H' → H' p = some (.tup [.int (t.made : Nat), .ref D]) → EntV K H' D t.es → Q (.ref p) H'
  | .error k => ∀ d H', Same H H' → H' d = some (.xd [("number", .int (k : Nat))]) → E (.ref N) (some d) H'
def sp_run_table (K : PySem.W.Frag) (N : Addr) : Sp := fun vs H Q E => ∃ (sv : V) (L : Addr) (F : List Fd) (r w : Nat) (xs : List V) (is : List Ins), vs = [sv, .ref L] ∧ SetV K H sv F r w ∧ SetOk F r w ∧ SqL K H L xs ∧ InssV K H xs is ∧ (∀ i ∈ is, i.Ok) ∧ is.length ≤ 1000 ∧
  RunRes K N H Q E (runT F r (tb0 r) 0 is)
end Fld
/-! the law's own table: states, what its draws promise -/
namespace Fld
open PySem PySem.Spec PyProof.Rows L2
/-- all tuples and dicts stand -/
def KS (H H' : Hp) : Prop := ∀ a u, (IsTupO u ∨ ∃ kvs, u = .dK kvs) → H a = some u → H' a = some u
theorem KS.refl (H : Hp) : KS H H := fun _ _ _ e => e
theorem KS.trans {H H1 H2 : Hp} (a : KS H H1) (b : KS H1 H2) : KS H H2 := fun c u t e => b c u t (a c u t e)
theorem KS.of {H H1 : Hp} (s : Same H H1) : KS H H1 := fun c u _ e => s c u e
theorem KS.ts {H H1 : Hp} (k : KS H H1) : TS H H1 := fun a u t e => k a u (.inl t) e
theorem KS.but {p : Addr} {H H' : Hp} {xs : List V} (b : But p H H') (h : H p = some (.lst xs)) : KS H H' := fun a u t e => by
  by_cases z : a = p
  · subst z; rw [h] at e; cases e
    rcases t with t | ⟨_, t⟩
    · exact absurd t nt_lst
    · cases t
  · exact b a u z e
theorem KS.drew {p c : Addr} {H H' : Hp} {n m : Nat} (hp : Pen H p c n) (d : Drew p c H H' m) : KS H H' := by
  obtain ⟨⟨xs, e⟩, _⟩ := hp.some
  exact KS.but d.but e
theorem KS.at {H : Hp} {q : Addr} {xs : List V} {o : HO} (h : H q = some (.lst xs)) : KS H (upd H q o) := KS.but But.set h
theorem EntV.ks {K : PySem.W.Frag} {H H' : Hp} {D : Addr} {es : Ent} (h : EntV K H D es) (k : KS H H') : EntV K H' D es := by
  obtain ⟨kvs, e, p⟩ := h
  exact ⟨kvs, k _ _ (.inr ⟨_, rfl⟩) e, pmap (fun _ _ z => z.ts k.ts) p⟩
/-- a state: entries, how many, the bound -/
def StV (K : PySem.W.Frag) (H : Hp) (v : V) (t : Tb) : Prop := ∃ a D, v = .ref a ∧ SqT K H a [.ref D, .int (t.made : Nat), .int (t.bound : Nat)] ∧ EntV K H D t.es
theorem StV.ks {K : PySem.W.Frag} {H H' : Hp} {v : V} {t : Tb} (h : StV K H v t) (k : KS H H') : StV K H' v t := let ⟨a, D, e, s, n⟩ := h; ⟨a, D, e, k.ts.tup s, n.ks k⟩
theorem StV.same {K : PySem.W.Frag} {H H' : Hp} {v : V} {t : Tb} (h : StV K H v t) (s : Same H H') : StV K H' v t := h.ks (.of s)
def sp_law_size (K : PySem.W.Frag) : Sp := fun vs H Q _ => ∃ (v : V) (f : Fd), vs = [v] ∧ FdV K H v f ∧ FdOk f ∧ Q (.int (fsz f : Nat)) H
/-- entries whose numbers rise -/
structure Asc (es : Ent) : Prop where
  asc : (es.map (·.1)).Pairwise (· < ·)
  fd : ∀ e ∈ es, FdOk e.2
  len : es.length ≤ 60
theorem Asc.nd {es : Ent} (h : Asc es) : (es.map (·.1)).Nodup := List.Pairwise.imp (fun h => Nat.ne_of_lt h) h.asc
theorem TbOk.ascE {r : Nat} {t : Tb} (h : TbOk r t) : Asc t.es := ⟨h.asc, h.fd, by have := h.len; omega⟩
def sp_without_old (K : PySem.W.Frag) : Sp := fun vs H Q _ => ∃ (D : Addr) (es : Ent) (b m : Nat), vs = [.ref D, .int b, .int m] ∧ EntV K H D es ∧ Asc es ∧ ∀ D' H', H D' = none → Same H H' → EntV K H' D' (keepE b m es) → Q (.ref D') H'
def CarRes (K : PySem.W.Frag) (H : Hp) (Q : VK) : Option Tb → Prop
  | none => ∀ H', Same H H' → Q .non H'
  | some t => ∀ v H', Same H H' → StV K H' v t → Q v H'
def sp_law_carried (K : PySem.W.Frag) : Sp := fun vs H Q _ => ∃ (sv st v : V) (F : List Fd) (r w : Nat) (t : Tb) (i : Ins), vs = [sv, st, v] ∧ SetV K H sv F r w ∧ SetOk F r w ∧ StV K H st t ∧ TbOk r t ∧ t.made < 9999 ∧ InsV K H v i ∧ i.Ok ∧ CarRes K H Q (stepT F r t i)
def sp_draw_step (K : PySem.W.Frag) : Sp := fun vs H Q _ => ∃ (p c : Addr) (n : Nat) (sv st : V) (F : List Fd) (r w : Nat) (t : Tb), vs = [.ref p, sv, st] ∧ Pen H p c n ∧ n ≤ 600000 ∧ SetV K H sv F r w ∧ SetOk F r w ∧ StV K H st t ∧ TbOk r t ∧
  ∀ v i H', InsV K H' v i → i.Ok → Drew p c H H' (n + 150) → Q v H'
def sp_draw_work (K : PySem.W.Frag) : Sp := fun vs H Q _ => ∃ (p c : Addr) (n m : Nat) (sv : V) (F : List Fd) (r w : Nat), vs = [.ref p, sv, .int m] ∧ Pen H p c n ∧ n ≤ 500000 ∧ m ≤ 60 ∧ SetV K H sv F r w ∧ SetOk F r w ∧
  ∀ q L st xs is t H', SqT K H' q [.ref L, st] → L ≠ p → H L = none → H' L = some (.lst xs) → InssV K H' xs is → (∀ i ∈ is, i.Ok) → is.length ≤ m → StV K H' st t → TbOk r t → runT F r (tb0 r) 0 is = .ok t → t.made ≤ is.length → Drew p c H H' (n + 10000) → Q (.ref q) H'
def pairD (es : Ent) : List PyData := es.map fun e => .tuple [.int (e.1 : Nat), fdat e.2]
def sp_law_pairs (K : PySem.W.Frag) : Sp := fun vs H Q _ => ∃ (D : Addr) (es : Ent), vs = [.ref D] ∧ EntV K H D es ∧ Asc es ∧ ∀ v H', Same H H' → Dp K H' v (.list (pairD es)) → Q v H'
/-- the numbers in order -/
theorem sorted_keys {es : Ent} (h : Asc es) {ys : List Int} (p : ys.Perm (es.map fun e => ((e.1 : Nat) : Int))) (o : ys.Pairwise (· ≤ ·)) : ys = es.map fun e => ((e.1 : Nat) : Int) := by
  refine PySem.W.ksm_same p o ?_
  have h1 := h.asc
  rw [List.pairwise_map] at h1 ⊢
  exact List.Pairwise.imp (fun h => by omega) h1
theorem keep_all {b m : Nat} {es : Ent} (h : m + sumE es ≤ b) : keepE b m es = es := by
  cases es with
  | nil => rfl
  | cons e es => unfold keepE; rw [if_pos h]
theorem keep_drop {b m : Nat} {es : Ent} {i : Nat} (hl : i ≤ es.length) (hj : ∀ j, j < i → ¬ m + sumE (es.drop j) ≤ b) (h : m + sumE (es.drop i) ≤ b) : keepE b m es = es.drop i := (gone_take es i hl hj (.inr h)).2
/-- many steps, one after the other -/
theorem runT_snoc {F : List Fd} {r : Nat} {i : Ins} : ∀ {is : List Ins} {t t' : Tb} {k : Nat}, runT F r t k is = .ok t' → ∀ {u : Tb}, stepT F r t' i = some u → runT F r t k (is ++ [i]) = .ok u
  | [], t, t', k, e, u, h => by
    cases e
    show runT F r t k [i] = _
    unfold runT
    rw [h]; rfl
  | j :: is, t, t', k, e, u, h => by
    unfold runT at e
    rw [List.cons_append]
    unfold runT
    cases c : stepT F r t j with
    | none => rw [c] at e; cases e
    | some v =>
      rw [c] at e
      exact runT_snoc e h
theorem step_made {F : List Fd} {r : Nat} {t t' : Tb} {i : Ins} (e : stepT F r t i = some t') : t'.made ≤ t.made + 1 := by
  have go : ∀ (o : Option Fd), (match o with | none => none | some f => if roomT t f = true then some (putT t f) else none) = some t' → t'.made ≤ t.made + 1 := by
    intro o e
    cases o with
    | none => cases e
    | some f =>
      simp only at e
      split at e
      · cases e; exact Nat.le_refl _
      · cases e
  cases i with
  | limit n =>
    unfold stepT at e
    simp only at e
    split at e
    · cases e; exact Nat.le_succ _
    · cases e
  | new y x => exact go (insF F t (.new y x)) e
  | again n => exact go (insF F t (.again n)) e
  | fixed n x => exact go (insF F t (.fixed n x)) e
  | entry n x => exact go (insF F t (.entry n x)) e
end Fld
namespace Fld
open PySem PySem.Spec PyProof.Rows L2
theorem dpAll_app {K : PySem.W.Frag} {H : Hp} : ∀ {xs ys : List V} {ds es : List PyData}, DpAll K H xs ds → DpAll K H ys es → DpAll K H (xs ++ ys) (ds ++ es)
  | _, _, _, _, .nil, s => s
  | _, _, _, _, .cons r t, s => .cons r (dpAll_app t s)
mutual
/-- data of tuples alone -/
def tupD : PyData → Bool
  | .list _ => false
  | .dict _ => false
  | .tuple xs => tupDAll xs
  | _ => true
def tupDAll : List PyData → Bool
  | [] => true
  | x :: xs => tupD x && tupDAll xs
end
mutual
theorem dp_ts {K : PySem.W.Frag} {H H' : Hp} (t : TS H H') : ∀ {v : V} {d : PyData}, Dp K H v d → tupD d = true → Dp K H' v d
  | _, _, .non, _ => .non
  | _, _, .bl b, _ => .bl b
  | _, _, .int i, _ => .int i
  | _, _, .str x, _ => .str x
  | _, _, .lst h a, n => by rw [tupD] at n; cases n
  | _, _, .tup h a, n => .tup (t.tup h) (dpAll_ts t a (by rw [tupD] at n; exact n))
theorem dpAll_ts {K : PySem.W.Frag} {H H' : Hp} (t : TS H H') : ∀ {vs : List V} {ds : List PyData}, DpAll K H vs ds → tupDAll ds = true → DpAll K H' vs ds
  | _, _, .nil, _ => .nil
  | _, _, .cons h s, n => by
    rw [tupDAll, Bool.and_eq_true] at n
    exact .cons (dp_ts t h n.1) (dpAll_ts t s n.2)
end
theorem tup_pair : ∀ es : Ent, tupDAll (pairD es) = true
  | [] => rfl
  | e :: es => by
    show (tupD (.tuple [.int (e.1 : Nat), fdat e.2]) && tupDAll (pairD es)) = true
    rw [tup_pair es]; rfl
theorem tupD_take : ∀ {ds : List PyData} (n : Nat), tupDAll ds = true → tupDAll (ds.take n) = true
  | _, 0, _ => rfl
  | [], _ + 1, _ => rfl
  | d :: ds, n + 1, h => by
    rw [tupDAll, Bool.and_eq_true] at h
    show (tupD d && tupDAll (ds.take n)) = true
    rw [h.1, tupD_take n h.2]; rfl
theorem pairs_keep {K : PySem.W.Frag} {H H1 H2 : Hp} {ps : List V} {es : Ent} {j : Nat} (h : DpAll K H ps ((pairD es).take j)) (s : Same H H1) (t : TS H1 H2) : DpAll K H2 ps ((pairD es).take j) := dpAll_ts ((TS.of s).trans t) h (tupD_take j (tup_pair es))
end Fld
/-! != of a dict and {}; != of two equal pairs of a number and a dict -/
namespace Fld
open PySem PySem.Spec PyProof.Rows L2
section
variable {X : Cx}
def rNeDic : R2 := fun x y H Q => ∃ a b ks, x = .ref a ∧ y = .ref b ∧ H a = some (.dK ks) ∧ H b = some (.dK []) ∧ Q (.bl (!ks.isEmpty)) H
theorem op_neDic (hu : X.A.units + 64 < cLine) : OpR X (compareOp .NotEq) rNeDic := by
  intro pins s σ H x y v u Q I rx ry h
  obtain ⟨a, b, ks, rfl, rfl, ea, eb, q⟩ := h
  obtain rfl : v = Value.ref a := rx
  obtain rfl : u = Value.ref b := ry
  obtain ⟨_, ya, va, ra, da⟩ := dk_of I.hok ea
  obtain ⟨_, yb, vb, rb, db⟩ := dk_of I.hok eb
  cases rb
  cases ra with
  | nil => exact PySem.W.keq_ne (knd := mixKind X.prog X.w) (r := true) ya yb da db (by omega) (fun _ => .nil) ⟨.bl false, H, I, rfl, q⟩
  | cons h t => exact PySem.W.keq_ne (knd := mixKind X.prog X.w) (r := true) ya yb da db (by omega) (fun z => (nomatch z)) ⟨.bl true, H, I, rfl, q⟩
/-- equal fields -/
theorem fd_eqAt {A : Around} {pins : List (Addr × Obj)} {σ : L2.St} {H : Hp} {s : Shared} (I : Inv X pins σ H s) (hu : A.units + 2 < cLine) {v u : V} {f : Fd} {x y : Value} (h1 : FdV X.K H v f) (h2 : FdV X.K H u f) (rx : RelV v x) (ry : RelV u y) : SeqAt.EqAt A s x y true := by
  obtain ⟨a, rfl, ha⟩ := h1
  obtain ⟨b, rfl, hb⟩ := h2
  cases rx
  cases ry
  by_cases e : a = b
  · subst e; exact SeqAt.EqAt.same _
  obtain ⟨i1, r1, t1, _⟩ := I.tuple ha
  obtain ⟨i2, r2, t2, _⟩ := I.tuple hb
  obtain ⟨x1, x2, rfl, p1, p2⟩ := vals2 r1
  obtain ⟨y1, y2, rfl, q1, q2⟩ := vals2 r2
  obtain ⟨k1, rfl⟩ := p1
  obtain ⟨k2, rfl⟩ := p2
  obtain ⟨k3, rfl⟩ := q1
  obtain ⟨k4, rfl⟩ := q2
  have same : ∀ (z : Str) (t t' : Tok), SeqAt.EqAt A.in1 s (.str z t) (.str z t') true := fun z t t' => by
    have := SeqAt.EqAt.str_str (A := A.in1) (s := s) z t z t'
    rw [beq_self_eq_true] at this; exact this
  refine SeqAt.EqAt.of_refs e ?_
  have := SeqAt.RcAt.tuples (A := A) (s := s) (l := a) (b := b) (e := fun _ => true) t1 t2 (by omega) (fun j h1 h2 => by
    match j, h1, h2 with
    | 0, _, _ => exact same _ _ _
    | 1, _, _ => exact same _ _ _)
  exact this
theorem hits_of {A : Around} {s : Shared} {kb : List (Key × Value)} : ∀ {ka : List (Key × Value)}, (∀ k v, (k, v) ∈ ka → ∃ y, valueAt kb k = some y ∧ SeqAt.EqAt A s v y true) → PySem.W.KeqHits A s kb ka true
  | [], _ => .nil
  | (k, v) :: r, h => by
    obtain ⟨y, h1, h2⟩ := h k v (List.mem_cons_self ..)
    exact PySem.W.KeqHits.hit (e := true) (b := true) h1 h2 (hits_of fun k' v' hm => h k' v' (List.mem_cons_of_mem _ hm))
theorem kv_mem {kvs : List (Key × V)} {vs : List (Key × Value)} (r : KV kvs vs) {k : Key} {x : Value} (h : (k, x) ∈ vs) : ∃ v, (k, v) ∈ kvs ∧ RelV v x := by
  unfold KV at r
  induction r with
  | nil => cases h
  | @cons p q _ _ h1 t ih =>
    rcases List.mem_cons.mp h with e | h
    · refine ⟨p.2, ?_, by have := h1.2; rw [← e] at this; exact this⟩
      have : p.1 = k := by rw [h1.1, ← e]
      rw [← this]; exact List.mem_cons_self ..
    · obtain ⟨v, hv, rv⟩ := ih h
      exact ⟨v, List.mem_cons_of_mem _ hv, rv⟩
theorem pairs_mem {P : Program} {w : World} : ∀ {es : List DictEntry} {vs : List (Key × Value)}, Pairs (mixKind P w) es vs → ∀ e ∈ es, ∃ p ∈ vs, keyIs p.1 e.key = true
  | _, _, .nil, e, h => by cases h
  | _, _, .cons h1 h2 t, e, h => by
    rcases List.mem_cons.mp h with rfl | h
    · exact ⟨_, List.mem_cons_self .., h1⟩
    · obtain ⟨p, hp, k⟩ := pairs_mem t e h
      exact ⟨p, List.mem_cons_of_mem _ hp, k⟩
theorem pairs_any {P P' : Program} {w w' : World} : ∀ {es : List DictEntry} {vs : List (Key × Value)}, Pairs (mixKind P w) es vs → Pairs (mixKind P' w') es vs
  | _, _, .nil => .nil
  | _, _, .cons h1 h2 t => .cons h1 h2 (pairs_any t)
theorem dict_any {P P' : Program} {w w' : World} {h : Heap} {a : Addr} {vs : List (Key × Value)} (hk : ∀ p ∈ vs, ∃ i, p.1 = Sum.inl i) (d : h.DictOf (mixKind P w) a vs) : h.DictOf (mixKind P' w') a vs := by
  obtain ⟨o, es, ep, h1, h2, h3, ko, pr, nd⟩ := d
  refine ⟨o, es, ep, h1, h2, h3, fun e he => ?_, pairs_any pr, nd⟩
  obtain ⟨k, k1, k2⟩ := ko e he
  obtain ⟨p, hp, k3⟩ := pairs_mem pr e (Array.mem_toList_iff.mpr he)
  obtain ⟨i, ei⟩ := hk p hp
  rw [ei] at k3
  rcases keyIs_shape k3 with ⟨j, t, e1, e2⟩ | ⟨x, t, e1, _⟩
  · rcases keyIs_shape k1 with ⟨j', t', e3, _⟩ | ⟨x, t', _, e4⟩
    · subst e3; exact ⟨_, k1, k2⟩
    · rw [e2] at e4; cases e4
  · cases e1
theorem keys_int {K : PySem.W.Frag} {H : Hp} {kvs : List (Key × V)} {es : Ent} {vs : List (Key × Value)} (h : Paired (PrV K H) kvs es) (r : KV kvs vs) : ∀ p ∈ vs, ∃ i, p.1 = Sum.inl i := by
  intro p hp
  have e : p.1 ∈ kvs.map (·.1) := by rw [r.keys]; exact List.mem_map.mpr ⟨p, hp, rfl⟩
  obtain ⟨kv, hkv, e2⟩ := List.mem_map.mp e
  obtain ⟨j, hj⟩ := List.getElem?_of_mem hkv
  obtain ⟨en, _, hpe⟩ := p_at h hj
  exact ⟨_, e2.symm.trans hpe.1⟩
def rNeTD (K : PySem.W.Frag) : R2 := fun x y H Q => ∃ (p q a b : Addr) (n : Int) (es : Ent), x = .ref p ∧ y = .ref q ∧ SqT K H p [.int n, .ref a] ∧ SqT K H q [.int n, .ref b] ∧ EntV K H a es ∧ EntV K H b es ∧ (es.map (·.1)).Nodup ∧ Q (.bl false) H
theorem op_neTD (hu : X.A.units + 64 < cLine) : OpR X (compareOp .NotEq) (rNeTD X.K) := by
  intro pins s σ H x y v u Q I rx ry h
  obtain ⟨p, q, a, b, n, es, rfl, rfl, hp, hq, ⟨ka, ea, pa⟩, ⟨kb, eb, pb⟩, nd, hQ⟩ := h
  obtain rfl : v = Value.ref p := rx
  obtain rfl : u = Value.ref q := ry
  obtain ⟨i1, r1, t1, _⟩ := I.tuple hp
  obtain ⟨i2, r2, t2, _⟩ := I.tuple hq
  obtain ⟨x1, x2, rfl, p1, p2⟩ := vals2 r1
  obtain ⟨y1, y2, rfl, q1, q2⟩ := vals2 r2
  obtain ⟨k1, rfl⟩ := p1
  obtain ⟨k3, rfl⟩ := q1
  cases p2
  cases q2
  obtain ⟨_, ya, va, ra, da⟩ := dk_of I.hok ea
  obtain ⟨_, yb, vb, rb, db⟩ := dk_of I.hok eb
  have hlen : va.length = vb.length := by rw [← ra.length, ← rb.length, p_len pa, p_len pb]
  have eqd : SeqAt.EqAt X.A.in1 s (.ref a) (.ref b) true := by
    by_cases e : a = b
    · subst e; exact SeqAt.EqAt.same _
    refine SeqAt.EqAt.of_refs e fun prog w E Q' h' => ?_
    refine PySem.W.keq_eq (knd := mixKind prog w) (r := true) ya yb (ka := va) (kb := vb) (dict_any (keys_int pa ra) da) (dict_any (keys_int pb rb) db) (by show X.A.units + 1 < cLine; omega) (fun _ => hits_of fun k x hx => ?_) (by rw [hlen]; simpa using h')
    obtain ⟨v1, hv1, rv1⟩ := kv_mem ra hx
    obtain ⟨j, hj⟩ := List.getElem?_of_mem hv1
    obtain ⟨e1, he1, hpe1⟩ := p_at pa hj
    obtain ⟨kv2, hkv2, hpe2⟩ := p_at' pb he1
    have nb := keys_nd pb nd
    have hv2 := val_mem nb (List.mem_of_getElem? hkv2)
    have ek : kv2.1 = k := hpe2.1.trans hpe1.1.symm
    rw [ek] at hv2
    have rr := rb.val k
    rw [hv2] at rr
    obtain ⟨y, hy, ry⟩ := rr.some_of
    exact ⟨y, hy, fd_eqAt I (by show X.A.units + 1 + 1 + 2 < cLine; omega) hpe1.2 hpe2.2 rv1 ry⟩
  have eqn : SeqAt.EqAt X.A.in1 s (.int n k1) (.int n k3) true := by
    have := SeqAt.EqAt.int_int (A := X.A.in1) (s := s) n k1 n k3
    rw [beq_self_eq_true] at this; exact this
  have := SeqAt.RcNeAt.tuples (A := X.A) (s := s) (l := p) (b := q) (e := fun _ => true) t1 t2 (by omega) (fun j h1 h2 => by
    match j, h1, h2 with
    | 0, _, _ => exact eqn
    | 1, _, _ => exact eqd)
  exact this X.prog X.w _ _ ⟨.bl false, H, I, rfl, hQ⟩
end
end Fld
namespace Fld
open PySem PySem.Spec PyProof.Rows L2
theorem strOk_txt {x : Str} {a b : Int} (h : txt (.str x) a b = true) : PyData.strOk x = true := by
  show x.cps.all (· < 0x110000) = true
  rw [← Array.all_toList]
  refine List.all_eq_true.mpr fun c hc => decide_eq_true ?_
  have h1 : (charCodes.all fun c => decide (c < 0x110000)) = true := by decide
  exact of_decide_eq_true (List.all_eq_true.mp h1 c (List.contains_iff_mem.mp (List.all_eq_true.mp (txt_all h) c hc)))
theorem lay_fds : ∀ {F : List Fd}, (∀ f ∈ F, FdOk f) → PyData.canLayAll0 (F.map fdat) = true
  | [], _ => by rw [List.map_nil, PyData.canLayAll0]
  | f :: F, h => by
    have hf := h f (List.mem_cons_self ..)
    have h1 : (fdat f).canLay0 = true := by
      show (PyData.tuple [.str f.1, .str f.2]).canLay0 = true
      simp [PyData.canLay0, PyData.canLayAll0, strOk_txt hf.n, strOk_txt hf.v]
    rw [List.map_cons, PyData.canLayAll0, h1, lay_fds fun x hx => h x (List.mem_cons_of_mem _ hx)]
    rfl
theorem fds_shaped {F : List Fd} (h : ∀ f ∈ F, FdOk f) (hl : F.length ≤ 40) : SeqAt.shaped (.tuple (F.map fdat)) = true := by
  have z := (sz_fds h hl).dp
  show (PyData.canLay0 (.tuple (F.map fdat)) && decide (PyData.depth (.tuple (F.map fdat)) ≤ 64)) = true
  rw [decide_eq_true (by omega), PyData.canLay0, lay_fds h]
  rfl
end Fld
/-! a law over work: data of the work, pop, what a state tells -/
namespace Fld
open PySem PySem.Spec PyProof.Rows L2
theorem sz_insD {i : Ins} (ok : i.Ok) : Sz 1500 1 i.dat := by
  have hi : ∀ n : Nat, n ≤ 9999 → Sz 1010 0 (.int (n : Nat)) := fun n h => sz_int (Nat.lt_of_le_of_lt (show n ≤ 9999 from h) (by decide +kernel))
  have hx : ∀ {x : Str}, txt (.str x) 0 40 = true → Sz 402 0 (.str x) := fun h => sz_txt (b := 40) h
  have hy : ∀ {x : Str}, txt (.str x) 1 20 = true → Sz 202 0 (.str x) := fun h => sz_txt (b := 20) h
  have f5 : Sz 52 0 (.str "fixed") := ⟨by decide, by decide, by decide⟩
  have e5 : Sz 52 0 (.str "entry") := ⟨by decide, by decide, by decide⟩
  have a5 : Sz 52 0 (.str "again") := ⟨by decide, by decide, by decide⟩
  have l5 : Sz 52 0 (.str "limit") := ⟨by decide, by decide, by decide⟩
  have n3 : Sz 52 0 (.str "new") := ⟨by decide, by decide, by decide⟩
  have two : ∀ {a b : PyData}, Sz 52 0 a → Sz 1010 0 b → Sz 1500 1 (.tuple [a, b]) := fun ha hb =>
    sz_tup' (k := 0) (by rw [okVAll, okVAll, okVAll, ha.ok, hb.ok]; rfl) (by rw [wVAll, wVAll, wVAll]; have := ha.w; have := hb.w; omega) (by rw [PyData.depthAll, PyData.depthAll, PyData.depthAll]; have := ha.dp; have := hb.dp; omega)
  have tri : ∀ {a b d : PyData}, Sz 52 0 a → Sz 1010 0 b → Sz 402 0 d → Sz 1500 1 (.tuple [a, b, d]) := fun ha hb hd =>
    sz_tup' (k := 0) (by rw [okVAll, okVAll, okVAll, okVAll, ha.ok, hb.ok, hd.ok]; rfl) (by rw [wVAll, wVAll, wVAll, wVAll]; have := ha.w; have := hb.w; have := hd.w; omega) (by rw [PyData.depthAll, PyData.depthAll, PyData.depthAll, PyData.depthAll]; have := ha.dp; have := hb.dp; have := hd.dp; omega)
  cases i with
  | again n => exact two a5 (hi n ok)
  | limit n => exact two l5 (hi n ok)
  | fixed n x => exact tri f5 (hi n ok.1) (hx ok.2)
  | entry n x => exact tri e5 (hi n ok.1) (hx ok.2)
  | new y x => exact tri n3 ((hy ok.1).mono (by omega) (by omega)) (hx ok.2)
def wdat (is : List Ins) : PyData := .list (is.map Ins.dat)
theorem sz_work {is : List Ins} (ok : ∀ i ∈ is, i.Ok) (hl : is.length ≤ 60) : Sz 100000 2 (wdat is) := by
  obtain ⟨h1, h2, h3⟩ := sz_many (b := 1500) (k := 1) (ds := is.map Ins.dat) fun d hd => by
    obtain ⟨i, hi, rfl⟩ := List.mem_map.mp hd
    exact sz_insD (ok i hi)
  rw [List.length_map] at h2
  have : (1500 + 2) * is.length ≤ (1500 + 2) * 60 := Nat.mul_le_mul_left _ hl
  exact sz_lst' h1 (by omega) h3
theorem lay_insD {i : Ins} (ok : i.Ok) : i.dat.canLay0 = true := by
  have S : ∀ x : Str, PyData.strOk x = true → (PyData.str x).canLay0 = true := fun x h => by rw [PyData.canLay0]; exact h
  have two : ∀ (a b : PyData), a.canLay0 = true → b.canLay0 = true → (PyData.tuple [a, b]).canLay0 = true := fun a b ha hb => by simp [PyData.canLay0, PyData.canLayAll0, ha, hb]
  have three : ∀ (a b c : PyData), a.canLay0 = true → b.canLay0 = true → c.canLay0 = true → (PyData.tuple [a, b, c]).canLay0 = true := fun a b c ha hb hc => by simp [PyData.canLay0, PyData.canLayAll0, ha, hb, hc]
  have I : ∀ n : Nat, (PyData.int (n : Nat)).canLay0 = true := fun n => by rw [PyData.canLay0]
  cases i with
  | again n => exact two _ _ (S _ (by decide +kernel)) (I n)
  | limit n => exact two _ _ (S _ (by decide +kernel)) (I n)
  | fixed n x => exact three _ _ _ (S _ (by decide +kernel)) (I n) (S _ (strOk_txt ok.2))
  | entry n x => exact three _ _ _ (S _ (by decide +kernel)) (I n) (S _ (strOk_txt ok.2))
  | new y x => exact three _ _ _ (S _ (by decide +kernel)) (S _ (strOk_txt ok.1)) (S _ (strOk_txt ok.2))
theorem wdat_shaped {is : List Ins} (ok : ∀ i ∈ is, i.Ok) (hl : is.length ≤ 60) : SeqAt.shaped (wdat is) = true := by
  have z := (sz_work ok hl).dp
  have h : ∀ {is : List Ins}, (∀ i ∈ is, i.Ok) → PyData.canLayAll0 (is.map Ins.dat) = true := by
    intro is
    induction is with
    | nil => intro _; rw [List.map_nil, PyData.canLayAll0]
    | cons i is ih =>
      intro h
      rw [List.map_cons, PyData.canLayAll0, lay_insD (h i (List.mem_cons_self ..)), ih fun x hx => h x (List.mem_cons_of_mem _ hx)]
      rfl
  show ((wdat is).canLay0 && decide ((wdat is).depth ≤ 64)) = true
  rw [decide_eq_true (by omega)]
  show ((PyData.list (is.map Ins.dat)).canLay0 && true) = true
  rw [PyData.canLay0, h ok]
  rfl
theorem InssV.dp {K : PySem.W.Frag} {H : Hp} : ∀ {xs : List V} {is : List Ins}, InssV K H xs is → DpAll K H xs (is.map Ins.dat)
  | _, _, .nil => .nil
  | _, _, .cons h t => by
    obtain ⟨a, rfl, s⟩ := h
    exact .cons (dp_ins s) (InssV.dp t)
theorem seqIx {k n : Nat} (h : k < n) : seqIndex? (k : Int) n = some k := by
  unfold seqIndex?
  have h1 : ¬ ((k : Int) < 0) := by omega
  have h2 : (decide (0 ≤ (k : Int)) && decide ((k : Int) < (n : Int))) = true := by
    rw [decide_eq_true (by omega), decide_eq_true (by omega)]; rfl
  simp only [h1, if_false, h2, if_true, Int.toNat_natCast]
theorem p_erase {α β : Type} {R : α → β → Prop} : ∀ {xs : List α} {ys : List β} {k : Nat}, Paired R xs ys → Paired R (xs.eraseIdx k) (ys.eraseIdx k)
  | _, _, _, .nil => .nil
  | _, _, 0, .cons _ t => t
  | _, _, _ + 1, .cons h t => .cons h (p_erase t)
theorem dle_pairs (n : Nat) {es : Ent} (h : es.length ≤ 60) : DLe (n + 3) (.list (pairD es)) := ⟨by unfold pairD; rw [List.length_map]; omega, fun d hd => by
  obtain ⟨e, he, rfl⟩ := List.mem_map.mp hd
  exact dle_2 (dle_int _ _) (dle_2 (dle_str _ _) (dle_str _ _))⟩
/-- the state behind the instructions, if any -/
def stO (F : List Fd) (r : Nat) (is : List Ins) : Option Tb := match runT F r (tb0 r) 0 is with | .ok t => some t | .error _ => none
theorem stO_run {F : List Fd} {r : Nat} {is : List Ins} {t : Tb} (h : stO F r is = some t) : runT F r (tb0 r) 0 is = .ok t := by
  unfold stO at h
  split at h
  · rename_i e; cases h; exact e
  · cases h
theorem runT_app {F : List Fd} {r : Nat} {i : Ins} : ∀ {is : List Ins} {t : Tb} {k : Nat},
    (match runT F r t k (is ++ [i]) with | .ok t => some t | .error _ => none) = (match runT F r t k is with | .ok t => stepT F r t i | .error _ => none)
  | [], t, k => by
    show (match runT F r t k [i] with | .ok t => some t | .error _ => none) = stepT F r t i
    unfold runT
    cases stepT F r t i <;> rfl
  | j :: is, t, k => by
    rw [List.cons_append]
    unfold runT
    cases stepT F r t j with
    | none => rfl
    | some u => exact runT_app
theorem stO_snoc {F : List Fd} {r : Nat} {is : List Ins} {i : Ins} : stO F r (is ++ [i]) = match stO F r is with | some t => stepT F r t i | none => none := by
  unfold stO
  rw [runT_app]
  cases runT F r (tb0 r) 0 is <;> rfl
/-- a state or None -/
def OSt (K : PySem.W.Frag) (H : Hp) (v : V) (r n : Nat) : Option Tb → Prop
  | none => v = .non
  | some t => StV K H v t ∧ TbOk r t ∧ t.made ≤ n
theorem OSt.ks {K : PySem.W.Frag} {H H' : Hp} {v : V} {r n : Nat} {o : Option Tb} (h : OSt K H v r n o) (k : KS H H') : OSt K H' v r n o := by
  cases o with
  | none => exact h
  | some t => exact ⟨h.1.ks k, h.2⟩
theorem penL {H : Hp} {p c L : Addr} {n : Nat} {o : HO} (h : Pen H p c n) (h1 : L ≠ p) (h2 : L ≠ c) : Pen (upd H L o) p c n := h.upd (Ne.symm h1) (Ne.symm h2)
end Fld
/-! list(enumerate(t)), t a tuple -/
namespace PySem
open Sem (wp)
open PySem.W (kdx_alive)
section
variable {prog : Program} {w : World} {A : Around} {E : Value → Shared → Prop} {s : Shared}
theorem meets_enumerate_new1 {v : Value} {o : Obj} {H : Heap → Prop} (B : Begins v o H) :
    Meets (Builtin.«enumerate.__new__» ⟨[.type "enumerate", v], []⟩) (fun _ R s => H s.heap ∧
      R (.ok (.ret (.ref (s.heap.push o).objs.size))) { s with heap := (s.heap.push o).push { cls := .type "enumerate", data := .fields #[.none, .bool false, .ref s.heap.objs.size, rawInt 0, .none, .none] } }) :=
  .of_wp fun prog w A R s h => by
    obtain ⟨hp, g, d, tk, os⟩ := s; obtain ⟨h1, h⟩ := h
    have hsub := sub_enumerate
    have q1 : ∀ {A' : Around} {E : Value → Shared → Prop} {Q : Value → Shared → Prop}, Q (.ref hp.objs.size) ⟨hp.push o, g, d, tk, os⟩ → wpAny (model prog w) A' (pyIter v) Q E ⟨hp, g, d, tk, os⟩ :=
      fun q => B.iter prog w _ _ ⟨hp, g, d, tk, os⟩ _ h1 q
    wp_walk using q1
    refine wpAny_stack_any fun st => wpAny_pure ?_
    split
    · rename_i c _ _ _ _ _
      cases (c == Value.type "enumerate")
      · wp_walk using q1
        exact ⟨_, rfl, h⟩
      · wp_walk using q1
        exact ⟨_, rfl, h⟩
    · wp_walk using q1
      exact ⟨_, rfl, h⟩
theorem call_enumerate_B {v : Value} {o : Obj} {H : Heap → Prop} (B : Begins v o H) {Q : Value → Shared → Prop} (h1 : H s.heap)
    (h : ∀ h', IsEnum h' (s.heap.objs.size + 1) s.heap.objs.size 0 .none → h'.get? s.heap.objs.size = some o → h'.objs.size = s.heap.objs.size + 2 →
      (∀ b o, s.heap.get? b = some o → h'.get? b = some o) → Q (.ref (s.heap.objs.size + 1)) { s with heap := h' }) :
    wpAny (model prog w) A (call (.type "enumerate") [v]) Q E s := by
  refine callType_new F.called_enumerate (by decide) (F.typeCall_enumerate_1 _) (F.newCall_enumerate_1 _) (fun obj => F.args_object_init_2 obj _) F.entry_enumerate_new
    (meets_enumerate_new1 B) ⟨h1, ?_⟩
  have hz : (s.heap.push o).objs.size = s.heap.objs.size + 1 := Heap.size_push ..
  show _ ∧ _
  rw [hz]
  have he : IsEnum ((s.heap.push o).push { cls := .type "enumerate", data := .fields #[.none, .bool false, .ref s.heap.objs.size, rawInt 0, .none, .none] }) (s.heap.objs.size + 1) s.heap.objs.size 0 .none := by
    have := Heap.get?_push_size (s.heap.push o) (o := { cls := .type "enumerate", data := .fields #[.none, .bool false, .ref s.heap.objs.size, rawInt 0, .none, .none] }) rfl
    rw [hz] at this; exact this
  refine ⟨⟨_, he, rfl⟩, h _ he (Heap.get?_push_of_some _ (Heap.get?_push_size _ B.free)) (by rw [Heap.size_push, hz]) fun b o x => Heap.get?_push_of_some _ (Heap.get?_push_of_some _ x)⟩
theorem enl_item_held {e it T : Addr} {fp : List Addr} {n i : Nat} {c : Int} {P : Nat → Value → Prop} {St : Nat → Heap → Prop} {old : Value} {f : Bool} {oT : Obj} {Q : Value → Shared → Prop}
    (D : Draws prog w A it fp n P St) (he : IsEnumHeld s.heap e it c old T f) (hT : s.heap.get? T = some oT) (hTe : T ≠ e) (hTi : T ≠ it) (hst : St i s.heap) (hlt : i < n) (hne : e ≠ it) (hef : e ∉ fp)
    (hQ : ∀ x h' tk, P i x → IsEnumHeld h' e it (c + 1) old T true → St (i + 1) h' →
      h'.get? s.heap.objs.size = some { cls := .type "tuple", data := .seq #[.int c tk, x] } → h'.objs.size = s.heap.objs.size + 1 →
      (∀ b o, b ≠ e → b ≠ it → s.heap.get? b = some o → h'.get? b = some o) → Q (.ref s.heap.objs.size) { s with heap := h', toks := tk + 1 }) :
    wpAny (model prog w) A (Builtin.«enumerate.__next__» ⟨[.ref e], []⟩) (fun fin s' => ∃ v, fin = .done (.ret v) ∧ Q v s') E s := by
  obtain ⟨hp, g, d, tk₀, os⟩ := s
  show wpAny _ _ (field (.ref e) 2 >>= _) _ _ _
  refine wpAny_bind (wpAny_field he rfl (x := .ref it) rfl ?_)
  refine wpAny_bind (D.item i _ _ _ hlt hst fun x h₁ tk hPx hit₁ hs₁ => ?_)
  replace hs₁ : Heap.SameBut it hp h₁ := hs₁
  have he₁ : IsEnumHeld h₁ e it c old T f := (hs₁.2 e hne).trans he
  show wpAny _ _ (field (.ref e) 3 >>= _) _ _ ⟨h₁, g, d, tk, os⟩
  refine wpAny_bind (wpAny_field he₁ rfl (x := rawInt c) rfl ?_)
  show wpAny _ _ (field (.ref e) 4 >>= _) _ _ ⟨h₁, g, d, tk, os⟩
  refine wpAny_bind (wpAny_field he₁ rfl (x := .none) rfl ?_)
  show wpAny _ _ (mkInt c >>= _) _ _ ⟨h₁, g, d, tk, os⟩
  refine wpAny_bind (wpAny_mkInt ?_)
  show wpAny _ _ (setField (.ref e) 3 (rawInt (c + 1)) >>= _) _ _ ⟨h₁, g, d, tk + 1, os⟩
  refine wpAny_bind (wpAny_setField_rec he₁ (by simp) fun h₂ he₂ hs₂ => ?_)
  replace hs₂ : Heap.SameBut e h₁ h₂ := hs₂
  replace he₂ : IsEnumHeld h₂ e it (c + 1) old T f := he₂
  show wpAny _ _ (setField (.ref e) 4 .none >>= _) _ _ ⟨h₂, g, d, tk + 1, os⟩
  refine wpAny_bind (wpAny_setField_rec he₂ (by simp) fun h₃ he₃ hs₃ => ?_)
  replace hs₃ : Heap.SameBut e h₂ h₃ := hs₃
  replace he₃ : IsEnumHeld h₃ e it (c + 1) old T f := he₃
  show wpAny _ _ (newTuple [.int c tk, x] >>= _) _ _ ⟨h₃, g, d, tk + 1, os⟩
  refine wpAny_bind (wpAny_newTuple ?_)
  have he₄ : IsEnumHeld (h₃.push { cls := .type "tuple", data := .seq #[.int c tk, x] }) e it (c + 1) old T f := Heap.get?_push_of_some _ he₃
  generalize hh₄ : h₃.push { cls := .type "tuple", data := .seq #[.int c tk, x] } = h₄ at he₄
  have hsz : h₃.objs.size = hp.objs.size := by rw [hs₃.1, hs₂.1, hs₁.1]
  have hel : e < hp.objs.size := Heap.lt_size he
  have ht₄ : h₄.get? hp.objs.size = some { cls := .type "tuple", data := .seq #[.int c tk, x] } := by rw [← hh₄, ← hsz]; exact Heap.get?_push_size _ rfl
  have hz₄ : h₄.objs.size = hp.objs.size + 1 := by rw [← hh₄, Heap.size_push, hsz]
  have hk₄ : ∀ b o, b ≠ e → b ≠ it → hp.get? b = some o → h₄.get? b = some o := fun b o hbe hbi hb => by
    rw [← hh₄]; exact Heap.get?_push_of_some _ (hs₃.extBut b o hbe (hs₂.extBut b o hbe (hs₁.extBut b o hbi hb)))
  have hit₄ : St (i + 1) h₄ := D.frame _ _ _ hit₁ fun b hb o y => by
    have hbe : b ≠ e := fun q => hef (q ▸ hb)
    rw [← hh₄]; exact Heap.get?_push_of_some _ (hs₃.extBut b o hbe (hs₂.extBut b o hbe y))
  show wpAny _ _ (Builtin.SmallTypes.ownedTupleIsFree (.ref e) >>= _) _ _ ⟨h₄, g, d, tk + 1, os⟩
  rw [hsz]
  clear hh₄ he₃ hs₃ he₂ hs₂ he₁ hs₁ hit₁ hsz h₃ h₂ h₁
  refine wpAny_bind (wpAny_tupleHeld_enum (s := ⟨h₄, g, d, tk + 1, os⟩) he₄ (hk₄ T oT hTe hTi hT) fun h₅ he₅ hs₅ => ?_)
  replace hs₅ : Heap.SameBut e h₄ h₅ := hs₅
  simp only [Bool.false_eq_true, if_false]
  refine wpAny_pure ⟨_, rfl, hQ x h₅ tk hPx he₅ ?_ (hs₅.extBut _ _ (Nat.ne_of_gt hel) ht₄) ?_ fun b o hbe hbi hb => hs₅.extBut b o hbe (hk₄ b o hbe hbi hb)⟩
  · exact D.frame _ _ _ hit₄ fun b hb o y => hs₅.extBut b o (fun q => hef (q ▸ hb)) y
  · show h₅.objs.size = hp.objs.size + 1
    rw [hs₅.1, hz₄]
/-- the count stands at i; what was given out last is held -/
def EnSt (h : Heap) (e it S : Addr) (i : Nat) : Prop :=
  (∃ old, IsEnum h e it (i : Nat) old) ∨ ∃ T old f oT, IsEnumHeld h e it (i : Nat) old T f ∧ h.get? T = some oT ∧ T ≠ e ∧ T ≠ it ∧ T ≠ S
theorem EnSt.keep {h h' : Heap} {e it S : Addr} {i : Nat} (x : EnSt h e it S i) (hk : ∀ b o, b ≠ S → h.get? b = some o → h'.get? b = some o) (he : e ≠ S) : EnSt h' e it S i := by
  rcases x with ⟨old, q⟩ | ⟨T, old, f, oT, q, hT, h1, h2, h3⟩
  · exact .inl ⟨old, hk _ _ he q⟩
  · exact .inr ⟨T, old, f, oT, hk _ _ he q, hk _ _ h3 hT, h1, h2, h3⟩
theorem enl_next {e it S : Addr} {fp : List Addr} {n i : Nat} {P : Nat → Value → Prop} {St : Nat → Heap → Prop} {Q : Option Value → Shared → Prop}
    (D : Draws prog w A.in1 it fp n P St) (he : EnSt s.heap e it S i) (hS : S < s.heap.objs.size) (hil : it < s.heap.objs.size) (hst : St i s.heap) (hlt : i < n) (hne : e ≠ it) (hef : e ∉ fp)
    (hQ : ∀ x h' tk, P i x → EnSt h' e it S (i + 1) → St (i + 1) h' →
      h'.get? s.heap.objs.size = some { cls := .type "tuple", data := .seq #[.int (i : Nat) tk, x] } → h'.objs.size = s.heap.objs.size + 1 →
      (∀ b o, b ≠ e → b ≠ it → s.heap.get? b = some o → h'.get? b = some o) → Q (some (.ref s.heap.objs.size)) { s with heap := h', toks := tk + 1 }) :
    wpAny (model prog w) A (pyNext (.ref e)) Q E s := by
  have ei : ((i + 1 : Nat) : Int) = (i : Int) + 1 := by omega
  rcases he with ⟨old, he⟩ | ⟨T, old, f, oT, he, hT, h1, h2, h3⟩
  · refine wpAny_pyNext_enum_itemC D he hst hlt hne hef fun x h' tk a b c d k q => hQ x h' tk a (.inr ⟨_, x, false, _, by rw [ei]; exact b, d, Nat.ne_of_gt (Heap.lt_size he), Nat.ne_of_gt hil, Nat.ne_of_gt hS⟩) c d k q
  · have hTy : s.TypeIs (.ref e) "enumerate" := ⟨_, he, rfl⟩
    unfold pyNext
    exact wpAny_bind (wpAny_attempt (wpAny_callSpecial?_slot (name := Str.ofString "__next__") hTy F.slot_enumerate_next
      (wpAny_call_entry F.slot_enumerate_next hTy F.entry_enumerate_next
        (enl_item_held D he hT h1 h2 hst hlt hne hef fun x h' tk a b c d k q => wpAny_pure (hQ x h' tk a (.inr ⟨T, old, true, oT, by rw [ei]; exact b, q T oT h1 h2 hT, h1, h2, h3⟩) c d k q)) (F.args_enumerate_next_1 _))))
theorem enl_done {e it S : Addr} {fp : List Addr} {n i : Nat} {P : Nat → Value → Prop} {St : Nat → Heap → Prop} {Q : Option Value → Shared → Prop}
    (D : Draws prog w A.in1 it fp n P St) (he : EnSt s.heap e it S i) (hst : St n s.heap)
    (hQ : ∀ h', Heap.ExtBut it s.heap h' → Q none { s with heap := h' }) : wpAny (model prog w) A (pyNext (.ref e)) Q E s := by
  rcases he with ⟨old, he⟩ | ⟨T, old, f, oT, he, hT, h1, h2, h3⟩
  · exact wpAny_pyNext_enum_endD D he hst hQ
  · have hTy : s.TypeIs (.ref e) "enumerate" := ⟨_, he, rfl⟩
    unfold pyNext
    refine wpAny_bind (wpAny_attempt (wpAny_callSpecial?_slot (name := Str.ofString "__next__") hTy F.slot_enumerate_next
      (wpAny_call_entry F.slot_enumerate_next hTy F.entry_enumerate_next ?_ (F.args_enumerate_next_1 _))))
    show wpAny _ _ (field (.ref e) 2 >>= _) _ _ _
    refine wpAny_bind (wpAny_field he rfl (x := .ref it) rfl ?_)
    refine wpAny_bind (D.done _ _ _ hst fun h' x he' hx' => ?_)
    obtain ⟨o, ho, hc⟩ := hx'
    refine wpAny_bind (wpAny_isInstance (T := "StopIteration") (b := true) ⟨o, ho, hc⟩ isSubtype_stop ?_)
    exact wpAny_pure (hQ _ he')
theorem enl_no_len : typeLookup (.type "enumerate") "__len__" = pure none := by rw [typeLookup_type, builtinLookup_eq_fast]; kernel_rfl
theorem enl_no_hint : typeLookup (.type "enumerate") "__length_hint__" = pure none := by rw [typeLookup_type, builtinLookup_eq_fast]; kernel_rfl
end
end PySem
namespace L2
open PySem PySem.Spec PyProof.Rows
/-- the pairs told so far -/
structure EnP (xs : List V) (H0 H : Hp) (q : Addr) (i : Nat) : Prop where
  ex : ∃ ts : List Addr, ts.length = i ∧ H q = some (.lst (ts.map V.ref)) ∧ ∀ (j : Nat) (t : Addr) (x : V), ts[j]? = some t → xs[j]? = some x → H t = some (.tup [.int (j : Nat), x])
  same : Same H0 H
theorem EnP.step {xs : List V} {H0 H : Hp} {q T : Addr} {i : Nat} {x : V} (h : EnP xs H0 H q i) (hq : H0 q = none) (hT : H T = none) (hx : xs[i]? = some x) {ys : List V} (hl : H q = some (.lst ys)) :
    EnP xs H0 (upd (upd H T (.tup [.int (i : Nat), x])) q (.lst (ys ++ [.ref T]))) q (i + 1) := by
  obtain ⟨⟨ts, hts, e1, hp⟩, hs⟩ := h
  rw [hl] at e1
  injection e1 with e1
  injection e1 with e1
  subst e1
  have hqT : q ≠ T := fun z => by rw [z, hT] at hl; cases hl
  refine ⟨⟨ts ++ [T], by rw [List.length_append, hts]; rfl, by rw [upd_same, List.map_append]; rfl, fun j t y hj hy => ?_⟩, fun b u hb => ?_⟩
  · rcases Nat.lt_trichotomy j ts.length with h1 | h1 | h1
    · rw [List.getElem?_append_left h1] at hj
      have e := hp j t y hj hy
      have n1 : t ≠ q := fun z => by rw [z, hl] at e; cases e
      have n2 : t ≠ T := fun z => by rw [z, hT] at e; cases e
      rw [upd_ne n1, upd_ne n2]; exact e
    · subst h1
      have et : T = t := by simpa using hj
      subst et
      rw [hts, hx] at hy
      injection hy with hy
      subst hy
      rw [upd_ne (Ne.symm hqT), upd_same, hts]
    · rw [List.getElem?_eq_none (by rw [List.length_append, List.length_singleton]; omega)] at hj
      cases hj
  · have n1 : b ≠ q := fun z => by rw [z, hq] at hb; cases hb
    have e := hs b u hb
    have n2 : b ≠ T := fun z => by rw [z, hT] at e; cases e
    show upd (upd H T _) q _ b = some u
    rw [upd_ne n1, upd_ne n2]; exact e
section
variable {X : Cx} {pins : List (Addr × Obj)} {σ : St} {A1 : Around}
theorem enl_loop {a e it q : Addr} {xs : List V} {H0 : Hp} {Rs : Result → Shared → Prop} (hh : A1.handled = none) (hne : e ≠ it) (hqe : e ≠ q) (hqi : it ≠ q) (hs : SqT X.K H0 a xs) (hia : a ≠ it) (hea : e ≠ a) (hn : xs.length ≤ 1000) (hq0 : H0 q = none)
    (hdone : ∀ H' s', Inv X pins σ H' s' → EnP xs H0 H' q xs.length → Rs (.ok (.ret .none)) s') :
    ∀ (k i : Nat) (H : Hp) (s : Shared), xs.length - i = k → i ≤ xs.length → Inv X pins σ H s → EnP xs H0 H q i → EnSt s.heap e it q i → s.heap.IsTupleIter it a i → (∀ b ∈ [e, it], FpOk X pins H b) →
      codeAny (model X.prog X.w) A1 (.builtin "list.extend.loop" ⟨[.ref q, .ref e, .none], []⟩) Rs s := by
  intro k
  induction k with
  | zero =>
    intro i H s hk hi I hP hE hit hf
    have hin : i = xs.length := by omega
    obtain ⟨its, rv, p, hz⟩ := I.tuple (hP.same.tup hs)
    have hl := rv.length
    refine codeAny_builtin PySem.F.entry_extend_loop ?_
    rw [Around.under_plainId PySem.F.plain_extend_loop _]
    show wpAny _ A1.in1 (pyNext (.ref e) >>= _) _ _ s
    have D := Draws.tuple (prog := X.prog) (w := X.w) (A := A1.in1.in1) hh it a hia its.toArray
    refine wpAny_bind (enl_done D hE (by rw [List.size_toArray, ← hl, ← hin]; exact ⟨hit, p⟩) fun h' eb => ?_)
    obtain ⟨f0, f1, f2, f3, f4, f5⟩ := hf it (by simp)
    refine wpAny_pure (hdone H _ (I.turned (t' := s.toks) (fun b o hb q => eb b o hb q) f0 f1 f3 f4 f5) ?_)
    rw [← hin]; exact hP
  | succ k ih =>
    intro i H s hk hi I hP hE hit hf
    have hlt : i < xs.length := by omega
    obtain ⟨its, rv, p, hz⟩ := I.tuple (hP.same.tup hs)
    have hl := rv.length
    obtain ⟨x, hx⟩ : ∃ x, xs[i]? = some x := ⟨xs[i], List.getElem?_eq_getElem hlt⟩
    obtain ⟨⟨ts, hts, hq, hpr⟩, hsm⟩ := id hP
    have hlq := (I.lstM hq)
    have hqs : q < s.heap.objs.size := by obtain ⟨z, its, kk, r2, hl, ee⟩ := hlq; exact Heap.lt_size ee
    have hils : it < s.heap.objs.size := by obtain ⟨_, q, _⟩ := hit; exact Heap.lt_size q
    have hes : e < s.heap.objs.size := by
      rcases hE with ⟨_, z⟩ | ⟨_, _, _, _, z, _⟩
      · exact Heap.lt_size z
      · exact Heap.lt_size z
    refine codeAny_builtin PySem.F.entry_extend_loop ?_
    rw [Around.under_plainId PySem.F.plain_extend_loop _]
    show wpAny _ A1.in1 (pyNext (.ref e) >>= _) _ _ s
    have D := Draws.tuple (prog := X.prog) (w := X.w) (A := A1.in1.in1) hh it a hia its.toArray
    have hef : e ∉ [it, a] := by simp [hne, hea]
    refine wpAny_bind (enl_next D hE hqs hils ⟨hit, p⟩ (by rw [List.size_toArray, ← hl]; exact hlt) hne hef fun u h' tk hu hE' hst' hT hsz hk' => ?_)
    have fr : H s.heap.objs.size = none := I.hok.fresh (Nat.le_refl _)
    obtain ⟨u2, hu2, ru⟩ := rv.get hx
    have eu : u2 = u := by
      have : its[i]? = some u := by simpa using hu
      rw [hu2] at this
      injection this
    subst eu
    have new : ObjOk X.prog X.w (upd H s.heap.objs.size (.tup [.int (i : Nat), x])) h' s.heap.objs.size (.tup [.int (i : Nat), x]) :=
      ⟨by show 2 ≤ sizeLine; decide, [.int i tk, u2], .cons ⟨_, rfl⟩ (.cons ru .nil), ⟨_, hT, rfl, _, rfl⟩⟩
    have I1 : Inv X pins σ (upd H s.heap.objs.size (.tup [.int (i : Nat), x])) { s with heap := h', toks := tk + 1 } :=
      I.turnedNew (t' := tk + 1) (ch := [e, it]) (fun b o hb q => hk' b o (fun z => hb (by simp [z])) (fun z => hb (by simp [z])) q) hf (Nat.le_refl _) new
    have hq1 : upd H s.heap.objs.size (.tup [.int (i : Nat), x]) q = some (.lst (ts.map V.ref)) := by rw [upd_ne (Nat.ne_of_lt hqs)]; exact hq
    obtain ⟨z, its3, kk, r2, hl3, ee⟩ := I1.lstM hq1
    have hl4 := r2.length
    rw [List.length_map] at hl4
    show wpAny _ A1.in1 (updateSeq q (·.push (.ref s.heap.objs.size)) >>= _) _ _ _
    refine wpAny_bind (wpAny_updateSeq ee rfl (wpAny_pure ⟨plainId_quiet PySem.F.plain_extend_loop _, ?_⟩) (by rw [List.size_toArray, sizeLine_eq]; omega) (by show (its3.toArray.push _).size ≤ sizeLine + 1; rw [Array.size_push, List.size_toArray, sizeLine_eq]; omega))
    have oth : ∀ b o, b ≠ q → h'.get? b = some o → (h'.update q (Obj.mapSeq (·.push (Value.ref s.heap.objs.size)))).get? b = some o := fun b o hb e => (Heap.get?_update_other _ _ (Ne.symm hb)).trans e
    refine ih (i + 1) _ _ (by omega) hlt (I1.lset (its' := its3 ++ [.ref s.heap.objs.size]) (t' := tk + 1) hq1 ee (by simp) (r2.append (.cons (show RelV (.ref s.heap.objs.size) (.ref s.heap.objs.size) from rfl) .nil)) (by rw [List.length_append, List.length_map, List.length_singleton, sizeLine_eq]; omega)) (hP.step hq0 fr hx hq) (hE'.keep oth hqe) (hst'.1.at fun o e => oth it o hqi e) fun b hb => ?_
    have hb1 : b ≠ q := by
      have e' : b = e ∨ b = it := by simpa using hb
      rcases e' with z | z
      · rw [z]; exact hqe
      · rw [z]; exact hqi
    have hb2 : b < s.heap.objs.size := by
      have e' : b = e ∨ b = it := by simpa using hb
      rcases e' with z | z
      · rw [z]; exact hes
      · rw [z]; exact hils
    exact ⟨by rw [upd_ne hb1, upd_ne (Nat.ne_of_lt hb2)]; exact (hf b hb).1, (hf b hb).2⟩
/-- nothing is said of the length -/
theorem enl_hint {M : Model} {A : Around} {E : Value → Shared → Prop} {Q : Bool → Shared → Prop} {s : Shared} {e : Addr} (hT : s.TypeIs (.ref e) "enumerate") (h : Q true s) :
    wpAny M A (Builtin.List.listLengthHint (.ref e)) Q E s := by
  unfold Builtin.List.listLengthHint
  refine wpAny_bind (wpAny_specialOf hT enl_no_len ?_)
  show wpAny _ A (specialOf (Value.ref e) (Str.ofString "__length_hint__") >>= _) _ _ _
  refine wpAny_bind (wpAny_specialOf hT enl_no_hint ?_)
  exact wpAny_pure h
/-- list(enumerate(t)) -/
def tEnL (K : PySem.W.Frag) (ta : TA) : TE := fun σ H Q => ta σ H fun vs H1 => ∃ a xs, vs = [.ref a] ∧ SqT K H1 a xs ∧ xs.length ≤ 1000 ∧ ∀ q H', H1 q = none → EnP xs H1 H' q xs.length → Q (.ref q) H'
end
theorem pe_enL {X : Cx} {e : Expr} {ta : TA} {p1 p2 p3 p4 : Pos} (ha : PA X [e] ta) (hgl : Gl X "list") (hml : X.mg "list" = none) (hge : Gl X "enumerate") (hme : X.mg "enumerate" = none) (hc : X.calm = true)
    (h1 : starEach [.Call (.Name "enumerate" p2) [e] [] p3] X.env = [(false, eval (.Call (.Name "enumerate" p2) [e] [] p3) X.env)] := by rfl) (h2 : starEach [e] X.env = [(false, eval e X.env)] := by rfl) :
    PE X (.Call (.Name "list" p1) [.Call (.Name "enumerate" p2) [e] [] p3] [] p4) (tEnL X.K ta) := by
  refine ⟨fun pins s σ H Q I h => wpAny_Call_Name_kw (ld_blt I hgl hml PyProof.Rows.boot_list (PyProof.Rows.callWith_type1 ?_ h1 rfl))⟩
  rw [h1]
  refine Calls.spliced_cons ?_
  refine wpAny_Call_Name_kw (ld_blt I hge hme boot_enumerate (PyProof.Rows.callWith_type1 (thn (ha.run p3 pins s σ H _ I h) fun us s1 ⟨vs, H1, I1, r1, q1⟩ => ?_) h2 rfl))
  obtain ⟨a, xs, ex, hs, hn, q⟩ := q1
  subst ex
  cases r1 with
  | cons r rr =>
    cases rr
    cases r
    obtain ⟨its, rv, p, hz⟩ := I1.tuple hs
    have hp : s1.heap.IsTuple a its.toArray := p
    have hal : a < s1.heap.objs.size := by obtain ⟨_, z, _⟩ := hp; exact Heap.lt_size z
    refine call_enumerate_B (begins_tuple a its.toArray) hp fun h' he hit hsz hk => ?_
    refine Calls.spliced_nil ?_
    have I2 : Inv X pins σ H1 { s1 with heap := h' } := I1.kept (t' := s1.toks) hk
    have fp : ∀ b ∈ [s1.heap.objs.size + 1, s1.heap.objs.size], FpOk X pins H1 b := fun b hb => by
      have e' : b = s1.heap.objs.size + 1 ∨ b = s1.heap.objs.size := by simpa using hb
      have hle : s1.heap.objs.size ≤ b := by
        rcases e' with z | z
        · rw [z]; exact Nat.le_add_right _ _
        · rw [z]; exact Nat.le_refl _
      exact I1.fpOk hle (I1.hok.fresh hle)
    generalize hS1 : ({ s1 with heap := h' } : Shared) = s2 at I2 ⊢
    have e2 : s2.heap = h' := by rw [← hS1]
    rw [← e2] at he hit hsz
    generalize s1.heap.objs.size = it at he hit hsz fp hal
    clear hS1 e2 hk I1 h
    -- list(..)
    refine callType_codes (Q₁ := fun obj s₁ => obj = .ref s2.heap.objs.size ∧ s₁ = { s2 with heap := s2.heap.push { cls := .type "list", data := .seq #[] } }) PySem.F.called_list (PySem.F.typeCall_list_1 _) PySem.F.entry_list_init
      (code_list_new _ ⟨rfl, rfl⟩) fun obj s₁ h₁ => ?_
    obtain ⟨rfl, rfl⟩ := h₁
    have hS : (s2.heap.push { cls := .type "list", data := .seq #[] }).get? s2.heap.objs.size = some { cls := .type "list", data := .seq #[] } := Heap.get?_push_size _ rfl
    refine ⟨⟨_, hS, rfl⟩, PySem.F.args_list_init_2 _ _, ?_⟩
    have fr : H1 s2.heap.objs.size = none := I2.hok.fresh (Nat.le_refl _)
    have I3 : Inv X pins σ (upd H1 s2.heap.objs.size (.lst [])) { s2 with heap := s2.heap.push { cls := .type "list", data := .seq #[] } } := I2.lnew (its := []) (t' := s2.toks) .nil (Nat.zero_le _)
    show wpAny _ _ (do let old ← Builtin.List.listItems (.ref s2.heap.objs.size); Builtin.List.listUpdate (.ref s2.heap.objs.size) (fun _ => #[]); letGo old.toList.reverse; Builtin.List.listExtendWith (.ref s2.heap.objs.size) (.ref (it + 1)) .none) _ _ _
    refine wpAny_bind ?_
    unfold Builtin.List.listItems
    refine wpAny_bind (wpAny_seqItems hS rfl (wpAny_pure ?_))
    show wpAny _ _ (updateSeq s2.heap.objs.size (fun _ => #[]) >>= fun _ => letGo (#[] : Array Value).toList.reverse >>= fun _ => Builtin.List.listExtendWith (.ref s2.heap.objs.size) (.ref (it + 1)) .none) _ _ _
    refine wpAny_bind (wpAny_updateSeq hS rfl ?_)
    have I4 := I3.lset (f := fun _ => #[]) (its := []) (its' := []) (ys := []) (t' := s2.toks) upd_same hS rfl .nil (Nat.zero_le _)
    rw [upd_upd] at I4
    refine wpAny_bind (wpAny_letGo ?_)
    have hS4 := Heap.get?_update_self (Obj.mapSeq (fun _ => (#[] : Array Value))) hS rfl
    have oth : ∀ b o, b ≠ s2.heap.objs.size → s2.heap.get? b = some o → ((s2.heap.push { cls := .type "list", data := .seq #[] }).update s2.heap.objs.size (Obj.mapSeq (fun _ => (#[] : Array Value)))).get? b = some o :=
      fun b o hb e => (Heap.get?_update_other _ _ (Ne.symm hb)).trans (Heap.get?_push_of_some _ e)
    have hie : it + 1 ≠ s2.heap.objs.size := Nat.ne_of_lt (Heap.lt_size he)
    have hii : it ≠ s2.heap.objs.size := Nat.ne_of_lt (Heap.lt_size hit)
    have he4 := oth _ _ hie he
    have hit4 := oth _ _ hii hit
    have hh : X.A.handled = none := I2.ok.hd hc
    have key : ∀ (s5 : Shared), Inv X pins σ (upd H1 s2.heap.objs.size (.lst [])) s5 → IsEnum s5.heap (it + 1) it 0 .none → s5.heap.get? it = some { cls := .type "tuple_iterator", data := .fields #[.ref a, .int 0 0] } →
        codeAny (model X.prog X.w) X.A.in1 (.builtin "list.extend.loop" ⟨[.ref s2.heap.objs.size, .ref (it + 1), .none], []⟩) (wants (fun r s₂ => r = .none ∧ EP X pins σ Q (.ref s2.heap.objs.size) s₂) X.xe) s5 := fun s5 I5 he5 hit5 =>
      enl_loop (X := X) (pins := pins) (σ := σ) (A1 := X.A.in1) (a := a) (e := it + 1) (it := it) (q := s2.heap.objs.size) (xs := xs) (H0 := H1) hh (Nat.succ_ne_self _) hie hii hs (Nat.ne_of_lt hal) (Nat.ne_of_gt (Nat.lt_succ_of_lt hal)) hn fr
        (fun H' s' I' hP => ⟨rfl, .ref s2.heap.objs.size, H', I', rfl, q _ H' fr hP⟩) xs.length 0 _ s5 (Nat.sub_zero _) (Nat.zero_le _) I5
        ⟨⟨[], rfl, upd_same, fun j t x hj => by simp at hj⟩, fun b u hb => by
          have n1 : b ≠ s2.heap.objs.size := fun z => by rw [z, fr] at hb; cases hb
          rw [upd_ne n1]; exact hb⟩ (.inl ⟨_, he5⟩) ⟨_, hit5, rfl, rfl⟩ fun b hb => ⟨by
            have n1 : b ≠ s2.heap.objs.size := by
              have e' : b = it + 1 ∨ b = it := by simpa using hb
              rcases e' with z | z
              · rw [z]; exact hie
              · rw [z]; exact hii
            rw [upd_ne n1]; exact (fp b hb).1, (fp b hb).2⟩
    unfold Builtin.List.listExtendWith
    refine wpAny_bind (wpAny_typeOf (T := "enumerate") ⟨_, he4, rfl⟩ ?_)
    have h1 : Builtin.List.listSameRef (.ref s2.heap.objs.size) (.ref (it + 1)) = false := by simp [Builtin.List.listSameRef, Ne.symm hie]
    have h2 : (Value.type "enumerate" == Value.type "list") = false := by decide
    have h3 : (Value.type "enumerate" == Value.type "tuple") = false := by decide
    simp only [h1, h2, h3, Bool.or_false, Bool.false_eq_true, if_false]
    refine wpAny_bind (wpAny_pyIter_enum he4 ?_)
    refine wpAny_bind (wpAny_holding (enl_hint ⟨_, he4, rfl⟩ ?_))
    refine wpAny_ite_split (fun _ => ?_) (fun _ => wpAny_pure ⟨plainId_quiet PySem.F.plain_extend_loop _, key _ I4 he4 hit4⟩)
    refine wpAny_bind (wpAny_rule ?_)
    refine wpAny_bind ?_
    show wpAny _ _ (updateSeq s2.heap.objs.size (·.push .none) >>= fun _ => updateSeq s2.heap.objs.size (·.pop)) _ _ _
    refine wpAny_bind (wpAny_updateSeq hS4 rfl ?_)
    have I5 := I4.lset (f := (·.push Value.none)) (its' := [Value.none]) (ys := [.non]) (t' := s2.toks) upd_same hS4 (by simp) (.cons rfl .nil) (by rw [List.length_singleton, sizeLine_eq]; decide)
    have hS5 := Heap.get?_update_self (Obj.mapSeq (·.push Value.none)) hS4 rfl
    refine wpAny_updateSeq hS5 rfl ?_ (by show 1 ≤ sizeLine; rw [sizeLine_eq]; decide) (by show 0 ≤ sizeLine + 1; exact Nat.zero_le _)
    have I6 := I5.lset (f := (·.pop)) (its' := []) (ys := []) (t' := s2.toks) upd_same hS5 (by rfl) .nil (Nat.zero_le _)
    rw [upd_upd, upd_upd] at I6
    have oth2 : ∀ {h : Heap} {f : Array Value → Array Value} {b : Addr} {o : Obj}, b ≠ s2.heap.objs.size → h.get? b = some o → (h.update s2.heap.objs.size (Obj.mapSeq f)).get? b = some o := fun hb e => (Heap.get?_update_other _ _ (Ne.symm hb)).trans e
    exact wpAny_pure ⟨plainId_quiet PySem.F.plain_extend_loop _, key _ I6 (oth2 hie (oth2 hie he4)) (oth2 hii (oth2 hii hit4))⟩
end L2
/-! what an instruction, an answer is, over data of any kind -/
namespace Fld
open PySem PySem.Spec PyProof.Rows L2
def dIns : PyData → Bool
  | .tuple [k, n] => [("again" : Str), "limit"].any (fun z => isS k z) && dBtw n 0 9999
  | .tuple [k, n, x] => if isS k "new" then dTxt n 1 20 && dTxt x 0 40 else [("fixed" : Str), "entry"].any (fun z => isS k z) && (dBtw n 0 9999 && dTxt x 0 40)
  | _ => false
def dAns : PyData → Bool
  | .tuple [k, n] => if isS k "received" then dBtw n 1 9999 else [("done" : Str), "cancelled"].any (fun z => isS k z) && dBtw n 0 20
  | _ => false
theorem dIns_no {d : PyData} (e : subT (tyD d) "tuple" = false) : dIns d = false := by
  rw [sub_tup] at e
  cases d <;> first | rfl | cases e
theorem dAns_no {d : PyData} (e : subT (tyD d) "tuple" = false) : dAns d = false := by
  rw [sub_tup] at e
  cases d <;> first | rfl | cases e
theorem dIns_ne {ds : List PyData} (h2 : ds.length ≠ 2) (h3 : ds.length ≠ 3) : dIns (.tuple ds) = false := by
  match ds, h2, h3 with
  | [], _, _ => rfl
  | [_], _, _ => rfl
  | [_, _], h, _ => exact absurd rfl h
  | [_, _, _], _, h => exact absurd rfl h
  | _ :: _ :: _ :: _ :: _, _, _ => rfl
theorem dAns_ne {ds : List PyData} (h2 : ds.length ≠ 2) : dAns (.tuple ds) = false := by
  match ds, h2 with
  | [], _ => rfl
  | [_], _ => rfl
  | [_, _], h => exact absurd rfl h
  | _ :: _ :: _ :: _, _ => rfl
theorem any2 {k : PyData} {a b : Str} (e : [a, b].any (fun z => isS k z) = true) : k = .str a ∨ k = .str b := by
  have e' : (isS k a || (isS k b || false)) = true := e
  rw [Bool.or_false, Bool.or_eq_true] at e'
  rcases e' with h | h
  · exact .inl (isS_str h)
  · exact .inr (isS_str h)
theorem ins_of {K : PySem.W.Frag} {H : Hp} {v : V} {d : PyData} (h : Dv K H v d) (e : dIns d = true) : ∃ i : Ins, InsV K H v i ∧ i.Ok := by
  match d, h, e with
  | .tuple [k, n], h, e =>
    obtain ⟨a, xs, rfl, hs, ha⟩ := h.sTup
    obtain ⟨x0, x1, d0, d1, rfl, e2, h0, h1⟩ := len2 ha (by rw [ha.len]; rfl)
    injection e2 with e3 e4
    injection e4 with e4 _
    subst e3 e4
    have e' : ([("again" : Str), "limit"].any (fun z => isS k z) && dBtw n 0 9999) = true := e
    rw [Bool.and_eq_true] at e'
    obtain ⟨i, rfl, i0, i1⟩ := btw_int e'.2
    obtain ⟨m, rfl⟩ : ∃ m : Nat, i = (m : Int) := ⟨i.toNat, by omega⟩
    have := h1.sInt; subst this
    rcases any2 e'.1 with rfl | rfl
    · have := h0.sStr; subst this
      exact ⟨.again m, ⟨a, rfl, hs⟩, by show m ≤ 9999; omega⟩
    · have := h0.sStr; subst this
      exact ⟨.limit m, ⟨a, rfl, hs⟩, by show m ≤ 9999; omega⟩
  | .tuple [k, n, x], h, e =>
    obtain ⟨a, xs, rfl, hs, ha⟩ := h.sTup
    obtain ⟨x0, x1, x2, d0, d1, d2, rfl, e2, h0, h1, h2⟩ := len3 ha (by rw [ha.len]; rfl)
    injection e2 with e3 e4
    injection e4 with e4 e5
    injection e5 with e5 _
    subst e3 e4 e5
    have e' : (if isS k "new" = true then dTxt n 1 20 && dTxt x 0 40 else [("fixed" : Str), "entry"].any (fun z => isS k z) && (dBtw n 0 9999 && dTxt x 0 40)) = true := e
    by_cases c : isS k "new" = true
    · rw [if_pos c, Bool.and_eq_true] at e'
      obtain ⟨y, rfl, hy⟩ := txt_str e'.1
      obtain ⟨z, rfl, hz⟩ := txt_str e'.2
      have := isS_str c; subst this
      have := h0.sStr; subst this
      have := h1.sStr; subst this
      have := h2.sStr; subst this
      exact ⟨.new y z, ⟨a, rfl, hs⟩, hy, hz⟩
    · rw [if_neg c, Bool.and_eq_true, Bool.and_eq_true] at e'
      obtain ⟨i, rfl, i0, i1⟩ := btw_int e'.2.1
      obtain ⟨z, rfl, hz⟩ := txt_str e'.2.2
      obtain ⟨m, rfl⟩ : ∃ m : Nat, i = (m : Int) := ⟨i.toNat, by omega⟩
      have := h1.sInt; subst this
      have := h2.sStr; subst this
      rcases any2 e'.1 with rfl | rfl
      · have := h0.sStr; subst this
        exact ⟨.fixed m z, ⟨a, rfl, hs⟩, by omega, hz⟩
      · have := h0.sStr; subst this
        exact ⟨.entry m z, ⟨a, rfl, hs⟩, by omega, hz⟩
theorem ans_of {K : PySem.W.Frag} {H : Hp} {v : V} {d : PyData} (h : Dv K H v d) (e : dAns d = true) : ∃ i : Ans, AnsV K H v i ∧ i.Ok := by
  match d, h, e with
  | .tuple [k, n], h, e =>
    obtain ⟨a, xs, rfl, hs, ha⟩ := h.sTup
    obtain ⟨x0, x1, d0, d1, rfl, e2, h0, h1⟩ := len2 ha (by rw [ha.len]; rfl)
    injection e2 with e3 e4
    injection e4 with e4 _
    subst e3 e4
    have e' : (if isS k "received" = true then dBtw n 1 9999 else [("done" : Str), "cancelled"].any (fun z => isS k z) && dBtw n 0 20) = true := e
    by_cases c : isS k "received" = true
    · rw [if_pos c] at e'
      obtain ⟨i, rfl, i0, i1⟩ := btw_int e'
      obtain ⟨m, rfl⟩ : ∃ m : Nat, i = (m : Int) := ⟨i.toNat, by omega⟩
      have := h1.sInt; subst this
      have := isS_str c; subst this
      have := h0.sStr; subst this
      exact ⟨.received m, ⟨a, rfl, hs⟩, by omega, by omega⟩
    · rw [if_neg c, Bool.and_eq_true] at e'
      obtain ⟨i, rfl, i0, i1⟩ := btw_int e'.2
      obtain ⟨m, rfl⟩ : ∃ m : Nat, i = (m : Int) := ⟨i.toNat, by omega⟩
      have := h1.sInt; subst this
      rcases any2 e'.1 with rfl | rfl
      · have := h0.sStr; subst this
        exact ⟨.done m, ⟨a, rfl, hs⟩, by show m ≤ 20; omega⟩
      · have := h0.sStr; subst this
        exact ⟨.cancelled m, ⟨a, rfl, hs⟩, by show m ≤ 20; omega⟩
/-- refused, or not, by the way -/
def sp_refused2 (K : PySem.W.Frag) : Sp := fun vs H Q _ => ∃ (way : Int) (v : V) (d : PyData) (b : Bool), vs = [.int way, v] ∧ ((way = 0 ∧ b = !dIns d) ∨ (way = 1 ∧ b = !dAns d)) ∧ Dv K H v d ∧ Lim d ∧ ∀ H', Same H H' → Q (.bl b) H'
end Fld
namespace Fld
open PySem PySem.Spec PyProof.Rows L2
theorem merge2 {x y : V} : mergeK [] [((.inl 0 : Key), x), (.inl 1, y)] = [((.inl 0 : Key), x), (.inl 1, y)] := rfl
theorem merge3 {x y z : V} : mergeK [] [((.inl 0 : Key), x), (.inl 1, y), (.inl 2, z)] = [((.inl 0 : Key), x), (.inl 1, y), (.inl 2, z)] := rfl
/-- dict(list(enumerate(t))): of two, of three items -/
theorem dic_of {K : PySem.W.Frag} {S : List Addr} {H0 H : Hp} {q : Addr} {xs : List V} {ds : List PyData} (h : EnP xs H0 H q xs.length) (ha : DvAll K (OffS S H0) xs ds) (hS : Hid S H0) (hz : SzAll 0 ds) (hw : wVAll ds ≤ 1500) (h23 : ds.length = 2 ∨ ds.length = 3) :
    ∃ (ts : List Addr) (kvs : List (Key × V)) (d : PyData), H q = some (.lst (ts.map V.ref)) ∧ Paired (fun p kv => SqT K H p [kV kv.1, kv.2]) ts kvs ∧ Sz 5000 1 d ∧ ∀ p, H p = none → Dv K (OffS S (upd H p (.dK (mergeK [] kvs)))) (.ref p) d := by
  obtain ⟨⟨ts, hts, hq, hp⟩, hs⟩ := h
  have ha' := ha.keep hs.off
  have hS' := hS.keep hs
  have zi : ∀ d ∈ ds, Sz (wV d) 0 d := fun d hd => ⟨okVAll_mem hz.1 hd, Nat.le_refl _, Nat.le_trans (depthAll_mem hd) hz.2⟩
  have hl := ha.len
  rcases h23 with e | e
  · obtain ⟨x0, x1, d0, d1, rfl, rfl, h0, h1⟩ := len2 ha' (by omega)
    match ts, hts, hq, hp with
    | [t0, t1], _, hq, hp =>
      rw [wVAll, wVAll, wVAll] at hw
      refine ⟨[t0, t1], [((.inl 0 : Key), x0), (.inl 1, x1)], .dict [(.int 0, d0), (.int 1, d1)], hq, .cons (SqT.of (hp 0 t0 x0 rfl rfl)) (.cons (SqT.of (hp 1 t1 x1 rfl rfl)) .nil), ?_, fun p hpn => ?_⟩
      · refine ⟨?_, ?_, ?_⟩
        · rw [okV, okVKv, okVKv, okVKv, (zi d0 (by simp)).ok, (zi d1 (by simp)).ok]; decide
        · rw [wV, wVKv, wVKv, wVKv, wV, wV]; omega
        · have := (zi d0 (by simp)).dp; have := (zi d1 (by simp)).dp
          simp only [PyData.depth, PyData.depthKv]; omega
      · rw [merge2]
        have s := Same.new (o := .dK [((.inl 0 : Key), x0), (.inl 1, x1)]) hpn
        exact .dic (off_new hpn hS') rfl ((DvAll.cons h0 (.cons h1 .nil)).keep s.off)
  · obtain ⟨x0, x1, x2, d0, d1, d2, rfl, rfl, h0, h1, h2⟩ := len3 ha' (by omega)
    match ts, hts, hq, hp with
    | [t0, t1, t2], _, hq, hp =>
      rw [wVAll, wVAll, wVAll, wVAll] at hw
      refine ⟨[t0, t1, t2], [((.inl 0 : Key), x0), (.inl 1, x1), (.inl 2, x2)], .dict [(.int 0, d0), (.int 1, d1), (.int 2, d2)], hq, .cons (SqT.of (hp 0 t0 x0 rfl rfl)) (.cons (SqT.of (hp 1 t1 x1 rfl rfl)) (.cons (SqT.of (hp 2 t2 x2 rfl rfl)) .nil)), ?_, fun p hpn => ?_⟩
      · refine ⟨?_, ?_, ?_⟩
        · rw [okV, okVKv, okVKv, okVKv, okVKv, (zi d0 (by simp)).ok, (zi d1 (by simp)).ok, (zi d2 (by simp)).ok]; decide
        · rw [wV, wVKv, wVKv, wVKv, wVKv, wV, wV, wV]; omega
        · have := (zi d0 (by simp)).dp; have := (zi d1 (by simp)).dp; have := (zi d2 (by simp)).dp
          simp only [PyData.depth, PyData.depthKv]; omega
      · rw [merge3]
        have s := Same.new (o := .dK [((.inl 0 : Key), x0), (.inl 1, x1), (.inl 2, x2)]) hpn
        exact .dic (off_new hpn hS') rfl ((DvAll.cons h0 (.cons h1 (.cons h2 .nil))).keep s.off)
end Fld
/-! a kept error that has a dict: isinstance, its attribute; count and index of Booleans -/
namespace PySem.W
open PySem PySem.Spec PySem.Calls PyProof.Rows
/-- what is written of the class decides `__class__`, whatever the instance's own dict holds -/
theorem own_class_of {K : Frag} {D : Addr} {o : Option Obj} (C : L2.ExcC K D) : findObj K D o "__class__" = some (.bind (.builtin "getset_descriptor.__get__") (.builtin "object.__class__")) := by
  obtain ⟨body, hb, _⟩ := any_some C.hd
  unfold findObj
  simp only [hb, C.ha, Option.bind_some]
  simp [C.hn, C.ht]
/-- error.__class__ is the class -/
theorem own_class_get {P : Program} {w : World} {B : Around} {F : Value → Shared → Prop} {t : Shared} {K : Frag} {e D : Addr} {oe : Obj} {o : Option Obj} {R : Option Value → Shared → Prop} (C : L2.ExcC K D) (hK : K.In t.heap) (J : InstAt t.heap e oe D o) (q : R (some (.ref D)) { t with toks := t.toks + 1 }) :
    wpAny (model P w) B (getAttr? (.ref e) "__class__") R F t := by
  obtain ⟨hp, gs, ds, tk, os⟩ := t
  dsimp only at hK J q ⊢
  have ty := J.type (M := model P w)
  have isB : Looks (model P w) hp (isInstance (.ref e) (.type "BaseException")) true := ty.andThen (looks_subIn hK C.hs)
  have noG := looks_findIn (M := model P w) hK C.hk
  have atA := looks_findIn (M := model P w) hK C.hg
  have cls := looks_find (M := model P w) hK J (own_class_of C)
  have off : (onTheHeap (Value.ref D) && (Value.builtin "BaseException.__getattribute__" == Value.builtin "object.__getattribute__")) = false := by
    rw [show (Value.builtin "BaseException.__getattribute__" == Value.builtin "object.__getattribute__") = false by decide +kernel, Bool.and_false]
  unfold getAttr? getAttrBy? getAttrBy; apply wpAny_bind; apply wpAny_mkText; apply wpAny_bind; apply wpAny_attempt; apply wpAny_holding; apply wpAny_bind
  refine ty.at (wpAny_bind (atA.at (?_ : wpAny _ _ (if (onTheHeap (Value.ref D) && (Value.builtin "BaseException.__getattribute__" == Value.builtin "object.__getattribute__")) = true then _ else _) _ _ _)))
  rw [if_neg (by rw [off]; decide)]; unfold getAttrByItsOwn hookBefore; apply wpAny_bind
  rw [if_pos (show onTheHeap (Value.ref D) = true from rfl)]; refine noG.at ?_; apply wpAny_bind; apply wpAny_attempt; apply wpAny_holding
  unfold callGetattribute boundAndCalled; rw [if_neg (show ¬ ((false && onTheHeap (Value.builtin "BaseException.__getattribute__")) = true) from Bool.false_ne_true), PySem.F.excAttr_ValueError.ga.bind (.ref e)]; apply wpAny_bind; apply wpAny_pure
  refine (?_ : wpAny (model P w) _ (call (.builtin "BaseException.__getattribute__") [.ref e, .str "__class__" tk]) _ _ _)
  apply wpAny_call; refine codeAny_call_builtin PySem.F.excAttr_ValueError.ga.plain PySem.F.entry_bexc_ga ?_
  refine @check_slot (model P w) _ _ ⟨hp, gs, ds, tk + 1, os⟩ "BaseException.__getattribute__" "BaseException" "__getattribute__" (.ref e) [.str "__class__" tk] [] _ ?_ ?_ isB (PySem.F.args_bexc_ga (.ref e) (.str "__class__" tk)) ?_
  · decide +kernel
  · decide +kernel
  unfold Builtin.«object.__getattribute__»; apply wpAny_bind
  refine wpAny_of_eq (a := ((Value.ref e : Value), [Value.str "__class__" tk])) (by first | rfl | (simp only [slotArgs]; rfl)) (wpAny_bind (wpAny_pure (wpAny_bind (ty.at (wpAny_bind (cls.at ?_))))))
  refine (?_ : wpAny (model P w) _ (holding [Value.builtin "object.__class__"] (call (.builtin "getset_descriptor.__get__") [.builtin "object.__class__", .ref e, .ref D]) >>= ret) _ _ _)
  apply wpAny_bind; apply wpAny_holding; refine wpAny_call (class_get (s := ⟨hp, gs, ds, tk + 1, os⟩) (ox := oe) (od := o) hK J C.hm (wpAny_pure ?_))
  refine (?_ : wpAny (model P w) _ (handedOut (.ref D)) _ _ _)
  rw [handedOut_of (v := .ref D) rfl]
  first
    | exact wpAny_pure (wpAny_pure q)
    | exact wpAny_pure q
    | exact wpAny_pure (wpAny_bind (wpAny_pure (wpAny_pure q)))
/-- what isinstance asks of an error with or without a dict -/
theorem kit_err {K : Frag} {e D : Addr} {oe : Obj} {o : Option Obj} (C : L2.ExcC K D) : KitX K (.ref e) (.ref D) (fun h => InstAt h e oe D o) := by
  have isCls : ∃ c d cd sl, K.lookup D = some ⟨c, d, .cls cd, sl⟩ := by
    obtain ⟨cd, hc, _⟩ := any_some C.hd
    unfold clsIn at hc
    split at hc
    · rename_i c' d' cd' sl' h; exact ⟨c', d', cd', sl', h⟩
    · cases hc
  obtain ⟨c, d, cd, sl, hD⟩ := isCls
  refine ⟨fun _ _ _ J => J.type, fun _ _ hK _ => fun A' Q' E' s' k q => ?_, fun h tp dd its n sl' hK htp => ?_, fun hK J q => own_class_get C hK J q⟩
  · unfold isType loadHead
    exact wpAny_bind (wpAny_loadPart (k _ _ (hK _ _ hD)) (wpAny_pure q))
  · cases z : (Value.ref D == Value.ref tp) with
    | false => rfl
    | true =>
      have : D = tp := Value.ref.inj (beq_iff_eq.mp z)
      rw [← this, hK _ _ hD] at htp
      cases htp
end PySem.W
namespace Fld
open PySem PySem.Spec PyProof.Rows L2
/-- at a: a kept error of the class D with these attributes -/
def ErrD (H : Hp) (a D : Addr) (fs : List (Str × V)) : Prop := ∃ d, H a = some (ExK (.ref D) (some d) a) ∧ H d = some (.xd fs)
def rIsXd (K : PySem.W.Frag) : List V → Hp → VK → Prop := fun xs H Q => ∃ (a D : Addr) (fs : List (Str × V)) (c : V) (cv : Value) (b : Bool), xs = [.ref a, c] ∧ ErrD H a D fs ∧ ExcC K D ∧ ClsV c cv ∧ PySem.W.kitOne K (.ref D) cv = some b ∧ Q (.bl b) H
theorem call_isXd {X : Cx} : CallR X (.builtin "isinstance") (rIsXd X.K) := by
  intro pins s σ H xs us Q I r h
  obtain ⟨a, D, fs, c, cv, b, rfl, ⟨d, ha, hd⟩, C, hcv, e, q⟩ := h
  obtain ⟨u1, u2, rfl, r1, r2⟩ := vals2 r
  cases (show u1 = Value.ref a from r1)
  cases hcv.eq r2
  obtain ⟨⟨oe, vs, hget, hz, hv⟩, _⟩ := I.hok a _ ha
  obtain ⟨mA, hns, _⟩ : ObjOk X.prog X.w H s.heap d (.xd fs) := I.hok d _ hd
  obtain ⟨od, ho, _⟩ := lookIn_ns hns
  have J : PySem.W.InstAt s.heap a oe D (some od) := ⟨hget, hz.1, by unfold PySem.W.notCls; rw [hv] <;> rfl, by rw [hz.2]; exact ho⟩
  exact PySem.W.kia_one (PySem.W.kit_err C) I.kIn J e (fun z => nomatch z) fun tk => ⟨.bl b, H, I.kept (t' := tk) fun _ _ z => z, rfl, q⟩
def rIsW (K : PySem.W.Frag) : List V → Hp → VK → Prop := fun xs H Q => rIsU K xs H Q ∨ rIsXd K xs H Q
theorem call_isW {X : Cx} : CallR X (.builtin "isinstance") (rIsW X.K) := by
  intro pins s σ H xs us Q I r h
  rcases h with h | h
  · exact call_isU pins s σ H xs us Q I r h
  · exact call_isXd pins s σ H xs us Q I r h
/-- x.f, x a kept error with this attribute -/
def tXd (K : PySem.W.Frag) (f : Str) (te : TE) : TE := fun σ H Q => te σ H fun x H1 => ∃ (a C : Addr) (fs : List (Str × V)) (v : V), x = .ref a ∧ XfC K C ∧ PySem.W.findIn K (.ref C) f = some none ∧ ErrD H1 a C fs ∧ fs.lookup f = some v ∧ Q v H1
theorem pe_xd {X : Cx} {e : Expr} {te : TE} {pos : Pos} {n : Str} (he : PE X e te) (hb : attributeBase e n X.env (eval e X.env) = eval e X.env := by rfl) : PE X (.Attribute e n pos) (tXd X.K n te) := by
  refine ⟨fun pins s σ H Q I h => attr_of hb (thn (he.run pins s σ H _ I h) fun u s1 hh => ?_)⟩
  obtain ⟨x, H1, I1, rx, a, C, fs, v, ex, T, hno, ⟨d, ha, hd⟩, l, q⟩ := hh
  subst ex
  obtain rfl : u = Value.ref a := rx
  obtain ⟨⟨oe, vs, hget, hz, hv⟩, _⟩ := I1.hok a _ ha
  obtain ⟨mA, hns, hr⟩ : ObjOk X.prog X.w H1 s1.heap d (.xd fs) := I1.hok d _ hd
  obtain ⟨od, ho, hl⟩ := lookIn_ns hns
  obtain ⟨u, hu, ru⟩ := RelO.some_of (v := v) (o := mA n) (by rw [← l]; exact hr n)
  have J : PySem.W.InstAt s1.heap a oe C (some od) := ⟨hget, hz.1, by unfold PySem.W.notCls; rw [hv] <;> rfl, by rw [hz.2]; exact ho⟩
  exact HandSPX.exc_get I1.kIn J T.ga T.gg T.exC (PySem.W.findObj_own T.hdC hno rfl (by rw [hl, hu])) (handed_of ru) ⟨v, H1, I1.tok _, ru, q⟩
/-- list.count(True) -/
def rCntB (K : PySem.W.Frag) : V → List V → Hp → VK → Prop := fun x xs H Q => ∃ (p : Addr) (bs : List Bool), x = .ref p ∧ xs = [.bl true] ∧ SqL K H p (bs.map V.bl) ∧ Q (.int (bs.count true : Nat)) H
theorem bools_of : ∀ {bs : List Bool} {us : List Value}, Vals (bs.map V.bl) us → us = bs.map Value.bool
  | [], _, r => by cases r; rfl
  | b :: bs, _, r => by
    rw [List.map_cons] at r
    cases r with
    | cons h t => rw [List.map_cons, ← bools_of t, show _ = Value.bool b from h]
def yesB : Value → Bool
  | .bool b => b
  | _ => false
theorem cnt_bools : ∀ bs : List Bool, (bs.map Value.bool).countP yesB = bs.count true
  | [] => rfl
  | b :: bs => by
    rw [List.map_cons, List.countP_cons, List.count_cons, cnt_bools bs]
    cases b <;> rfl
theorem mt_cntB {X : Cx} : MtR X "list.count" (rCntB X.K) := by
  intro pins s σ H x xs v us Q I rx rxs h
  obtain ⟨p, bs, rfl, rfl, hs, q⟩ := h
  obtain rfl : v = Value.ref p := rx
  obtain ⟨u, rfl, ru⟩ := rxs.one
  obtain rfl : u = Value.bool true := ru
  obtain ⟨its, rv, ⟨⟨cls, dd, data, sl⟩, n, ho, hc, hdn, hd⟩, hlen⟩ := I.list hs
  simp only at hc hd
  subst hc hd
  have hb := bools_of rv
  refine call_meets PySem.F.slot_list_count ⟨_, ho, rfl⟩ PySem.F.entry_list_count (PySem.F.args_list_count_2 _ _) (SeqAt.list_countAt p its.toArray n dd sl (.bool true) yesB) ⟨ho, fun y hy => ?_, ?_⟩
  · rw [List.mem_toArray, hb] at hy
    obtain ⟨b, _, rfl⟩ := List.mem_map.mp hy
    have := SeqAt.EqAt.bool_bool (A := X.A.in1) (s := s) b true
    cases b <;> exact this
  · refine ⟨.int (bs.count true : Nat), H, I.tok _, ⟨s.toks, ?_⟩, q⟩
    have e : its.toArray.toList.countP yesB = bs.count true := by rw [List.toList_toArray, hb, cnt_bools]
    rw [e]
end Fld
namespace Fld
open PySem PySem.Spec PyProof.Rows L2
theorem FnOk_weak {P : Program} {w : World} {K : PySem.W.Frag} {mg : Str → Option Value} {base : Heap} {CX : CXT} {k : Nat} {f : Addr} {fd : FuncData} {ps : List Str} {s1 s2 : Sp} (G : FnOk P w K mg base CX k f fd ps s1) (h : ∀ vs H Q E, s2 vs H Q E → s1 vs H Q E) : FnOk P w K mg base CX k f fd ps s2 :=
  ⟨fun vs H Q E z => G.1 vs H Q E (h _ _ _ _ z), fun a b c d e f g i j k l m n z => G.2 a b c d e f g i j k l m n (h _ _ _ _ z)⟩
def dWork : PyData → Bool
  | .list ds => ds.all dIns
  | _ => false
theorem dWork_no {d : PyData} (e : subT (tyD d) "list" = false) : dWork d = false := by
  rw [sub_lst] at e
  cases d <;> first | rfl | cases e
def sp_bad_setting (K : PySem.W.Frag) (N : Addr) : Sp := fun vs H _ E => ∃ (v : V) (d : PyData), vs = [v] ∧ Dv K H v d ∧ Lim d ∧ dSetting d = false ∧ ∀ H', Same H H' → E (.ref N) none H'
/-- no setting; a setting and what is no list of instructions -/
def sp_run_wrong1 (K : PySem.W.Frag) (N : Addr) : Sp := fun vs H _ E => ∃ (v u : V) (d : PyData), vs = [v, u] ∧ Dv K H v d ∧ Lim d ∧ dSetting d = false ∧ ∀ H', Same H H' → E (.ref N) none H'
def sp_run_wrong2 (K : PySem.W.Frag) (N : Addr) : Sp := fun vs H _ E => ∃ (v u : V) (F : List Fd) (r w : Nat) (d : PyData), vs = [v, u] ∧ SetV K H v F r w ∧ SetOk F r w ∧ Dv K H u d ∧ Lim d ∧ dWork d = false ∧ ∀ H', Same H H' → E (.ref N) none H'
def dueD : Except Nat Tb → PyData
  | .ok _ => .str "fine"
  | .error k => .tuple [.str "bad", .int (k : Nat)]
/-- the word for a setting and a list -/
def sp_told (K : PySem.W.Frag) : Sp := fun vs H Q _ => ∃ (v u : V), vs = [v, u] ∧
  ((∃ d : PyData, Dv K H v d ∧ Lim d ∧ dSetting d = false ∧ ∀ H', Same H H' → Q (.str "setting") H') ∨
   (∃ (F : List Fd) (r w : Nat) (d : PyData), SetV K H v F r w ∧ SetOk F r w ∧ Dv K H u d ∧ Lim d ∧ dWork d = false ∧ ∀ H', Same H H' → Q (.str "value") H') ∨
   (∃ (L : Addr) (F : List Fd) (r w : Nat) (xs : List V) (is : List Ins), u = .ref L ∧ SetV K H v F r w ∧ SetOk F r w ∧ SqL K H L xs ∧ InssV K H xs is ∧ (∀ i ∈ is, i.Ok) ∧ is.length ≤ 1000 ∧ ∀ x H', Same H H' → Dp K H' x (dueD (runT F r (tb0 r) 0 is)) → Q x H'))
def sp_due (K : PySem.W.Frag) : Sp := fun vs H Q _ => ∃ (v : V) (L : Addr) (F : List Fd) (r w : Nat) (xs : List V) (is : List Ins), vs = [v, .ref L] ∧ SetV K H v F r w ∧ SetOk F r w ∧ SqL K H L xs ∧ InssV K H xs is ∧ (∀ i ∈ is, i.Ok) ∧ is.length ≤ 1000 ∧
  ∀ x H', Same H H' → Dp K H' x (dueD (runT F r (tb0 r) 0 is)) → Q x H'
theorem dIns_ok {i : Ins} (ok : i.Ok) : dIns i.dat = true := by
  have n9 : ∀ n : Nat, n ≤ 9999 → dBtw (.int (n : Nat)) 0 9999 = true := fun n h => nat_btw' (a := 0) (b := 9999) (by omega) h
  cases i with
  | again n => show (true && dBtw (.int (n : Nat)) 0 9999) = true; rw [n9 n ok]; rfl
  | limit n => show (true && dBtw (.int (n : Nat)) 0 9999) = true; rw [n9 n ok]; rfl
  | fixed n x => show (true && (dBtw (.int (n : Nat)) 0 9999 && dTxt (.str x) 0 40)) = true; rw [n9 n ok.1, show dTxt (.str x) 0 40 = true from ok.2]; rfl
  | entry n x => show (true && (dBtw (.int (n : Nat)) 0 9999 && dTxt (.str x) 0 40)) = true; rw [n9 n ok.1, show dTxt (.str x) 0 40 = true from ok.2]; rfl
  | new y x => show (dTxt (.str y) 1 20 && dTxt (.str x) 0 40) = true; rw [show dTxt (.str y) 1 20 = true from ok.1, show dTxt (.str x) 0 40 = true from ok.2]; rfl
theorem sz_lim {b k : Nat} {d : PyData} (z : Sz b k d) (h : b ≤ 10000000 := by decide) : Lim d := ⟨z.ok, Nat.le_trans z.w h⟩
end Fld
namespace Fld
open PySem PySem.Spec PyProof.Rows L2
theorem IsC.not {K : PySem.W.Frag} {C D : Addr} (h : IsC K C) (s : PySem.W.subIn K (.ref D) (.ref C) = some false) (sf : PySem.W.subIn K (.ref C) (.ref C) = some true) : PySem.W.kitOne K (.ref D) (.ref C) = some false := kit_own h.x.hd h.t s fun _ => by
  cases z : (Value.ref D == Value.ref C) with
  | false => rfl
  | true =>
    have : D = C := Value.ref.inj (beq_iff_eq.mp z)
    rw [this, sf] at s; cases s
theorem xfc_of {K : PySem.W.Frag} {C : Addr} (x : ExcC K C) : XfC K C := ⟨x.hg, x.hk, x.hs, x.hd⟩
end Fld
namespace Fld
open PySem PySem.Spec PyProof.Rows L2
/-! ### values that are no settings -/
theorem ts_off {H : Hp} {p : Addr} {xs : List V} (h : H p = some (.lst xs)) : TS H (OffS [p] H) := fun a u t e => by
  have n : a ∉ [p] := fun z => by
    rw [List.mem_singleton.mp z, h] at e; cases e
    exact nt_lst t
  rw [off_ne n]; exact e
theorem bad_a {a b c : PyData} (h : dFields 12 a = false) : dSetting (.tuple [a, b, c]) = false := by
  show (dFields 12 a && _ && _) = false
  rw [h]; rfl
theorem bad_b {a b c : PyData} (h : dBtw b 0 120 = false) : dSetting (.tuple [a, b, c]) = false := by
  show (_ && dBtw b 0 120 && _) = false
  rw [h, Bool.and_false, Bool.false_and]
theorem bad_c {a b c : PyData} (h : dBtw c 0 4 = false) : dSetting (.tuple [a, b, c]) = false := by
  show (_ && dBtw c 0 4) = false
  rw [h, Bool.and_false]
theorem sz_tri' {a b c : PyData} (x : Sz 60000 3 a) (y : Sz 1010 0 b) (z : Sz 1010 0 c) : Sz 100000 4 (.tuple [a, b, c]) := by
  refine sz_tup' (k := 3) ?_ ?_ ?_
  · rw [okVAll, okVAll, okVAll, okVAll, x.ok, y.ok, z.ok]; rfl
  · have := x.w; have := y.w; have := z.w
    rw [wVAll, wVAll, wVAll, wVAll]; omega
  · refine depthAll_le fun d hd => ?_
    simp only [List.mem_cons, List.not_mem_nil, or_false] at hd
    rcases hd with rfl | rfl | rfl
    · exact x.dp
    · exact Nat.le_trans y.dp (by decide)
    · exact Nat.le_trans z.dp (by decide)
theorem sz_triL {a b c : PyData} (x : Sz 60000 3 a) (y : Sz 1010 0 b) (z : Sz 1010 0 c) : Sz 100000 4 (.list [a, b, c]) := by
  refine sz_lst' (k := 3) ?_ ?_ ?_
  · rw [okVAll, okVAll, okVAll, okVAll, x.ok, y.ok, z.ok]; rfl
  · have := x.w; have := y.w; have := z.w
    rw [wVAll, wVAll, wVAll, wVAll]; omega
  · refine depthAll_le fun d hd => ?_
    simp only [List.mem_cons, List.not_mem_nil, or_false] at hd
    rcases hd with rfl | rfl | rfl
    · exact x.dp
    · exact Nat.le_trans y.dp (by decide)
    · exact Nat.le_trans z.dp (by decide)
/-- no setting, not too great -/
def BadS (d : PyData) : Prop := Lim d ∧ dSetting d = false
def fdsD (F : List Fd) : PyData := .tuple (F.map fdat)
def fdsL (F : List Fd) : PyData := .list (F.map fdat)
theorem sz_fdsL {F : List Fd} (h : ∀ f ∈ F, FdOk f) (hl : F.length ≤ 40) : Sz 30000 2 (fdsL F) := by
  obtain ⟨h1, h2, h3⟩ := sz_many (b := 700) (k := 1) (ds := F.map fdat) fun d hd => by
    obtain ⟨f, hf, rfl⟩ := List.mem_map.mp hd
    exact sz_fd (h f hf)
  rw [List.length_map] at h2
  have : (700 + 2) * F.length ≤ (700 + 2) * 40 := Nat.mul_le_mul_left _ hl
  exact sz_lst' h1 (by omega) h3
def bads1 (F : List Fd) (r w : Nat) : List PyData := [.none, .tuple [], .list [], .dict [], .int 7, .list [fdsD F, .int (r : Nat), .int (w : Nat)], .tuple [fdsD F, .int (r : Nat)], .tuple [fdsL F, .int (r : Nat), .int (w : Nat)], .tuple [fdsD F, .int (-1), .int (w : Nat)]]
def bads2 (F : List Fd) (r w : Nat) : List PyData := [.tuple [fdsD F, .int 121, .int (w : Nat)], .tuple [fdsD F, .int (r : Nat), .int 5], .tuple [fdsD F, .int (r : Nat), .int (-1)], .tuple [fdsD F, .bool true, .int 0], .tuple [fdsD F, .int (r : Nat), .none]]
theorem sz_small {n : Nat} (h : n ≤ 9999) : Sz 1010 0 (.int (n : Nat)) := sz_int (Nat.lt_of_le_of_lt (show n ≤ 9999 from h) (by decide +kernel))
theorem bads1_ok {F : List Fd} {r w : Nat} (ok : SetOk F r w) : ∀ d ∈ bads1 F r w, BadS d := by
  have hl := ok.len
  have zf : Sz 60000 3 (fdsD F) := (sz_fds ok.fd (by omega)).mono (by omega) (by omega)
  have zl : Sz 60000 3 (fdsL F) := (sz_fdsL ok.fd (by omega)).mono (by omega) (by omega)
  have ir : Sz 1010 0 (.int (r : Nat)) := sz_small (by have := ok.r; omega)
  have iw : Sz 1010 0 (.int (w : Nat)) := sz_small (by have := ok.w; omega)
  have im : Sz 1010 0 (.int (-1)) := sz_int
  intro d hd
  simp only [bads1, List.mem_cons, List.not_mem_nil, or_false] at hd
  rcases hd with rfl | rfl | rfl | rfl | rfl | rfl | rfl | rfl | rfl
  · exact ⟨⟨by decide, by decide⟩, rfl⟩
  · exact ⟨⟨by decide, by decide⟩, rfl⟩
  · exact ⟨⟨by decide, by decide⟩, rfl⟩
  · exact ⟨⟨by decide, by decide⟩, rfl⟩
  · exact ⟨sz_lim (b := 1010) (k := 0) sz_int, rfl⟩
  · exact ⟨sz_lim (sz_triL zf ir iw), rfl⟩
  · refine ⟨sz_lim (b := 100000) (k := 4) (sz_tup' (k := 3) ?_ ?_ ?_), rfl⟩
    · rw [okVAll, okVAll, okVAll, zf.ok, ir.ok]; rfl
    · have := zf.w; have := ir.w
      rw [wVAll, wVAll, wVAll]; omega
    · refine depthAll_le fun d hd => ?_
      simp only [List.mem_cons, List.not_mem_nil, or_false] at hd
      rcases hd with rfl | rfl
      · exact zf.dp
      · exact Nat.le_trans ir.dp (by decide)
  · exact ⟨sz_lim (sz_tri' zl ir iw), bad_a rfl⟩
  · exact ⟨sz_lim (sz_tri' zf im iw), bad_b (by decide)⟩
theorem bads2_ok {F : List Fd} {r w : Nat} (ok : SetOk F r w) : ∀ d ∈ bads2 F r w, BadS d := by
  have hl := ok.len
  have zf : Sz 60000 3 (fdsD F) := (sz_fds ok.fd (by omega)).mono (by omega) (by omega)
  have ir : Sz 1010 0 (.int (r : Nat)) := sz_small (by have := ok.r; omega)
  have iw : Sz 1010 0 (.int (w : Nat)) := sz_small (by have := ok.w; omega)
  have tr : Sz 1010 0 (.bool true) := ⟨by decide, by decide, by decide⟩
  have nn : Sz 1010 0 .none := ⟨by decide, by decide, by decide⟩
  intro d hd
  simp only [bads2, List.mem_cons, List.not_mem_nil, or_false] at hd
  rcases hd with rfl | rfl | rfl | rfl | rfl
  · exact ⟨sz_lim (sz_tri' zf sz_int iw), bad_b (by decide)⟩
  · exact ⟨sz_lim (sz_tri' zf ir sz_int), bad_c (by decide)⟩
  · exact ⟨sz_lim (sz_tri' zf ir sz_int), bad_c (by decide)⟩
  · exact ⟨sz_lim (sz_tri' zf tr sz_int), bad_b (by decide)⟩
  · exact ⟨sz_lim (sz_tri' zf ir nn), bad_c (by decide)⟩
/-- values beside fields -/
def odds : List PyData := [.tuple [.str "A", .str ""], .tuple [.str "", .str "a"], .tuple [.str "a", .str "B"], .tuple [.str "a"], .none, .str "ab"]
theorem odds_ok : ∀ d ∈ odds, dField d = false ∧ Sz 700 1 d := by
  intro d hd
  simp only [odds, List.mem_cons, List.not_mem_nil, or_false] at hd
  rcases hd with rfl | rfl | rfl | rfl | rfl | rfl <;> exact ⟨by decide +kernel, ⟨by decide +kernel, by decide +kernel, by decide +kernel⟩⟩
theorem bent_fds {F : List Fd} {d : PyData} {k : Nat} (hF : ∀ f ∈ F, FdOk f) (hl : F.length ≤ 12) (hd : dField d = false) (hz : Sz 700 1 d) (hk : k < 12) (hkl : k ≤ F.length) : dFields 12 (.tuple (((F.map fdat).take k ++ [d] ++ (F.map fdat).drop k).take 12)) = false ∧ Sz 60000 3 (.tuple (((F.map fdat).take k ++ [d] ++ (F.map fdat).drop k).take 12)) := by
  have mem : d ∈ (((F.map fdat).take k ++ [d] ++ (F.map fdat).drop k).take 12) := by
    refine List.mem_of_getElem? (i := k) ?_
    rw [List.getElem?_take_of_lt hk, List.append_assoc, List.getElem?_append_right (by rw [List.length_take, List.length_map]; omega)]
    rw [List.length_take, List.length_map, Nat.min_eq_left hkl, Nat.sub_self]; rfl
  refine ⟨?_, ?_⟩
  · show (decide _ && List.all _ dField) = false
    rw [show List.all (((F.map fdat).take k ++ [d] ++ (F.map fdat).drop k).take 12) dField = false from ?_, Bool.and_false]
    refine Bool.eq_false_iff.mpr fun h => ?_
    have := List.all_eq_true.mp h d mem
    rw [hd] at this; cases this
  · obtain ⟨h1, h2, h3⟩ := sz_many (b := 700) (k := 1) (ds := ((F.map fdat).take k ++ [d] ++ (F.map fdat).drop k).take 12) fun e he => by
      have he := List.mem_of_mem_take he
      rcases List.mem_append.mp he with he | he
      · rcases List.mem_append.mp he with he | he
        · obtain ⟨f, hf, rfl⟩ := List.mem_map.mp (List.mem_of_mem_take he)
          exact sz_fd (hF f hf)
        · rw [List.mem_singleton.mp he]; exact hz
      · obtain ⟨f, hf, rfl⟩ := List.mem_map.mp (List.mem_of_mem_drop he)
        exact sz_fd (hF f hf)
    have : (((F.map fdat).take k ++ [d] ++ (F.map fdat).drop k).take 12).length ≤ 12 := by rw [List.length_take]; omega
    have : (700 + 2) * (((F.map fdat).take k ++ [d] ++ (F.map fdat).drop k).take 12).length ≤ (700 + 2) * 12 := Nat.mul_le_mul_left _ this
    exact (sz_tup' (b := 30000) (k := 1) h1 (by omega) h3).mono (by omega) (by omega)
theorem one_fds {d : PyData} (hd : dField d = false) (hz : Sz 700 1 d) : dFields 12 (.tuple [d]) = false ∧ Sz 60000 3 (.tuple [d]) := by
  refine ⟨?_, ?_⟩
  · show (true && (dField d && true)) = false
    rw [hd]; rfl
  · exact (sz_tup' (b := 1000) (k := 1) (by rw [okVAll, okVAll, hz.ok]; rfl) (by rw [wVAll, wVAll]; have := hz.w; omega) (by rw [PyData.depthAll, PyData.depthAll]; have := hz.dp; omega)).mono (by omega) (by omega)
def fab : PyData := .tuple [.str "a", .str "b"]
theorem ab13 : dFields 12 (.tuple (List.replicate 13 fab)) = false ∧ Sz 60000 3 (.tuple (List.replicate 13 fab)) := ⟨rfl, ⟨by decide +kernel, by decide +kernel, by decide +kernel⟩⟩
def sp_wrong_setting (K : PySem.W.Frag) : Sp := fun vs H Q _ => ∃ (p c : Addr) (n : Nat) (v : V) (F : List Fd) (r w : Nat), vs = [.ref p, v] ∧ Pen H p c n ∧ n ≤ 600000 ∧ SetV K H v F r w ∧ SetOk F r w ∧ ∀ x d H', Dv K H' x d → BadS d → Drew p c H H' (n + 10) → Q x H'
end Fld
namespace Fld
open PySem PySem.Spec PyProof.Rows L2
/-! ### values that are no lists of instructions -/
def oddsI : List PyData := [.none, .tuple [.str "new", .str "", .str "a"], .tuple [.str "again", .int (-1)], .list [.str "again", .int 0], .tuple [.str "limit", .bool true], .tuple [.str "fixed", .int 0]]
theorem oddsI_ok : ∀ d ∈ oddsI, dIns d = false ∧ Sz 1500 1 d := by
  intro d hd
  simp only [oddsI, List.mem_cons, List.not_mem_nil, or_false] at hd
  rcases hd with rfl | rfl | rfl | rfl | rfl | rfl <;> exact ⟨by decide +kernel, ⟨by decide +kernel, by decide +kernel, by decide +kernel⟩⟩
structure WL (ds : List PyData) : Prop where
  bad : ∃ d ∈ ds, dIns d = false
  sz : ∀ d ∈ ds, Sz 1500 1 d
  len : ds.length ≤ 20
theorem WL.rev {ds : List PyData} (h : WL ds) : WL ds.reverse := ⟨let ⟨d, m, e⟩ := h.bad; ⟨d, List.mem_reverse.mpr m, e⟩, fun d m => h.sz d (List.mem_reverse.mp m), by rw [List.length_reverse]; exact h.len⟩
def BadW (d : PyData) : Prop := Lim d ∧ dWork d = false
theorem sz_all {ds : List PyData} (h : ∀ d ∈ ds, Sz 1500 1 d) (hl : ds.length ≤ 20) : Sz 50000 2 (.list ds) ∧ Sz 50000 2 (.tuple ds) := by
  obtain ⟨h1, h2, h3⟩ := sz_many (b := 1500) (k := 1) h
  have : (1500 + 2) * ds.length ≤ (1500 + 2) * 20 := Nat.mul_le_mul_left _ hl
  exact ⟨sz_lst' h1 (by omega) h3, sz_tup' h1 (by omega) h3⟩
theorem WL.badW {ds : List PyData} (h : WL ds) : BadW (.list ds) := by
  refine ⟨sz_lim (sz_all h.sz h.len).1, ?_⟩
  show ds.all dIns = false
  obtain ⟨d, m, e⟩ := h.bad
  refine Bool.eq_false_iff.mpr fun z => ?_
  have := List.all_eq_true.mp z d m
  rw [e] at this; cases this
def idat (is : List Ins) : List PyData := is.map Ins.dat
theorem wl_of {is : List Ins} {d : PyData} {ds : List PyData} (ok : ∀ i ∈ is, i.Ok) (hd : dIns d = false) (hz : Sz 1500 1 d) (m : d ∈ ds) (h : ∀ e ∈ ds, e = d ∨ e ∈ idat is ∨ e = (Ins.again 9999).dat) (hl : ds.length ≤ 20) : WL ds := by
  refine ⟨⟨d, m, hd⟩, fun e he => ?_, hl⟩
  rcases h e he with rfl | h | rfl
  · exact hz
  · obtain ⟨i, hi, rfl⟩ := List.mem_map.mp h
    exact sz_insD (ok i hi)
  · exact sz_insD (show (9999 : Nat) ≤ 9999 from Nat.le_refl _)
theorem wl_mid {is : List Ins} {d : PyData} (k : Nat) (ok : ∀ i ∈ is, i.Ok) (hd : dIns d = false) (hz : Sz 1500 1 d) (hl : is.length ≤ 12) : WL ((idat is).take k ++ [d] ++ (idat is).drop k) := by
  refine wl_of ok hd hz (List.mem_append_left _ (List.mem_append_right _ (List.mem_singleton.mpr rfl))) (fun e he => ?_) ?_
  · rcases List.mem_append.mp he with h | h
    · rcases List.mem_append.mp h with h | h
      · exact .inr (.inl (List.mem_of_mem_take h))
      · exact .inl (List.mem_singleton.mp h)
    · exact .inr (.inl (List.mem_of_mem_drop h))
  · rw [List.length_append, List.length_append, List.length_take, List.length_drop]
    have : (idat is).length = is.length := List.length_map ..
    show min k (idat is).length + 1 + _ ≤ 20
    omega
theorem wl_front {is : List Ins} {d : PyData} (ok : ∀ i ∈ is, i.Ok) (hd : dIns d = false) (hz : Sz 1500 1 d) (hl : is.length ≤ 12) : WL ([(Ins.again 9999).dat] ++ idat is ++ [d]) := by
  refine wl_of ok hd hz (List.mem_append_right _ (List.mem_singleton.mpr rfl)) (fun e he => ?_) ?_
  · rcases List.mem_append.mp he with h | h
    · rcases List.mem_append.mp h with h | h
      · exact .inr (.inr (List.mem_singleton.mp h))
      · exact .inr (.inl h)
    · exact .inl (List.mem_singleton.mp h)
  · rw [List.length_append, List.length_append]
    have : (idat is).length = is.length := List.length_map ..
    show 1 + (idat is).length + 1 ≤ 20
    omega
theorem wl_end {is : List Ins} {d : PyData} (ok : ∀ i ∈ is, i.Ok) (hd : dIns d = false) (hz : Sz 1500 1 d) (hl : is.length ≤ 12) : WL (idat is ++ [d]) := by
  refine wl_of ok hd hz (List.mem_append_right _ (List.mem_singleton.mpr rfl)) (fun e he => ?_) ?_
  · rcases List.mem_append.mp he with h | h
    · exact .inr (.inl h)
    · exact .inl (List.mem_singleton.mp h)
  · rw [List.length_append]
    have : (idat is).length = is.length := List.length_map ..
    show (idat is).length + 1 ≤ 20
    omega
theorem p_take {α β : Type} {R : α → β → Prop} : ∀ {xs : List α} {ys : List β} (k : Nat), Paired R xs ys → Paired R (xs.take k) (ys.take k)
  | _, _, 0, _ => .nil
  | _, _, _ + 1, .nil => .nil
  | _, _, k + 1, .cons h t => .cons h (p_take k t)
theorem p_drop {α β : Type} {R : α → β → Prop} : ∀ {xs : List α} {ys : List β} (k : Nat), Paired R xs ys → Paired R (xs.drop k) (ys.drop k)
  | _, _, 0, h => h
  | _, _, _ + 1, .nil => .nil
  | _, _, k + 1, .cons _ t => p_drop k t
end Fld
/-! f(k = v); t * 0, t * 1; data laid one by one; events and logs -/
namespace Fld
open PySem PySem.Spec PyProof.Rows L2
def gW {α : Type} : List α → List α → List α
  | [], ws => ws
  | _, _ => []
theorem gW_len {α : Type} {us ws : List α} {n : Nat} (h : (gW us ws).length = n) (h0 : 0 < n := by decide) : us = [] ∧ ws.length = n := by
  cases us with
  | nil => exact ⟨rfl, h⟩
  | cons a r => exact absurd h (by show ¬ 0 = n; omega)
theorem gW_rel {vs : List V} {us : List Value} {zs : List V} {ws : List Value} (r : Vals vs us) (s : Vals zs ws) : Vals (gW vs zs) (gW us ws) := by
  cases r with
  | nil => exact s
  | cons _ _ => exact .nil
section
variable {X : Cx} {CX : CXT} {k : Nat} {f : Addr} {fd : FuncData} {ps ks : List Str} {sp : Sp} {E : XK} {x : Str} {p pos : Pos} {tk : TA} {kws : List Keyword} {g : List Value → List Value → List Value} {gV : List V → List V → List V}
/-- f(k = v, ..), nothing by position -/
theorem pe_callK0 (F : FnOk X.prog X.w X.K X.mg X.base CX k f fd ps sp) (hr : Room k X.A) (hg : Gl X x) (hm : X.mg x = some (.ref f)) (hk : PySem.W.keepIn X.K (.ref f) = true) (hb : KBinds X.K fd ps ks g gV) (hx : Passes CX X E)
    (hkw : PK X kws tk) (hall : (backToKw pos (keywordEach kws X.env)).all (·.1.isSome) = true := by rfl) (hks : (backToKw pos (keywordEach kws X.env)).filterMap (·.1) = ks := by rfl)
    (hdb : (x == ("__debug__" : Str)) = false := by decide)
    (hpl : ((backTo pos (starEach [] X.env)).any (·.1) || (backToKw pos (keywordEach kws X.env)).any (·.1.isNone)) = false := by rfl) :
    PE X (.Call (.Name x p) [] kws pos) (tCallK sp gV E (fun _ H R => R [] H) tk) := by
  refine ⟨fun pins s σ H Q I h => ?_⟩
  refine wpAny_Call_Name_kw (ld_glob I hg hm ?_ hdb)
  refine PySem.W.callWith_KW0 (h₀ := X.base) I.ok.mod.kin hk hall (thn (hkw.run pos pins s σ H _ I h) fun ws s2 ⟨zs, H2, I2, rz, q2⟩ => ⟨I2.kIn, ?_⟩) hpl
  rw [hks]
  exact run_fnk (us := []) (vs := []) F hr hb hx I2 .nil rz q2
end
/-! ### t * 0, t * 1 -/
theorem tuple_mul1 (l : Addr) (items : Array Value) (n : Nat) (dd : Option Addr) (sl : Array (Option Value)) (u : Tok) :
    Meets (Builtin.«tuple.__mul__» ⟨[.ref l, .int 1 u], []⟩) (fun _ R s => s.heap.get? l = some { cls := .type "tuple", dict := dd, data := .seq items n, slots := sl } ∧ R (.ok (.ret (Value.ref l))) s) :=
  .of_wp fun prog w A R s h => by
    obtain ⟨hp, g, d, tk, os⟩ := s
    obtain ⟨hl, h⟩ := h
    have f1 := AutoSeq1.idx_int
    have c1 : (items.isEmpty || (1 : Int) == 1) = true := by rw [show ((1 : Int) == 1) = true from rfl, Bool.or_true]
    wp_walk using wpAny_loadPart' hl
    repeat (first
      | (refine wpAny_ite_true (decide_eq_true c1) ?_; wp_walk using wpAny_loadPart' hl)
      | (refine wpAny_ite_false (by decide) ?_; wp_walk using wpAny_loadPart' hl))
    exact ⟨_, rfl, h⟩
theorem tuple_mul0 (l : Addr) (items : Array Value) (n : Nat) (dd : Option Addr) (sl : Array (Option Value)) (u : Tok) (c0 : items.isEmpty = false) :
    Meets (Builtin.«tuple.__mul__» ⟨[.ref l, .int 0 u], []⟩) (fun _ R s => s.heap.get? l = some { cls := .type "tuple", dict := dd, data := .seq items n, slots := sl } ∧
      R (.ok (.ret (Value.ref s.heap.objs.size))) { s with heap := s.heap.push { cls := Value.type "tuple", data := Data.seq #[] }, toks := s.toks }) :=
  .of_wp fun prog w A R s h => by
    obtain ⟨hp, g, d, tk, os⟩ := s
    obtain ⟨hl, h⟩ := h
    have f1 := AutoSeq1.idx_int
    have c1 : (items.isEmpty || (0 : Int) == 1) = false := by rw [c0]; rfl
    have c2 : (decide ((0 : Int) ≤ 0) || items.isEmpty) = true := by rw [c0]; rfl
    wp_walk using wpAny_loadPart' hl
    repeat (first
      | (refine wpAny_ite_false (decide_eq_false (by rw [c1]; exact Bool.false_ne_true)) ?_; wp_walk using wpAny_loadPart' hl)
      | (refine wpAny_ite_true (decide_eq_true c2) ?_; wp_walk using wpAny_loadPart' hl)
      | (refine wpAny_ite_false (by decide) ?_; wp_walk using wpAny_loadPart' hl))
    exact ⟨_, rfl, h⟩
def rRepZ (K : PySem.W.Frag) : R2 := fun x y H Q => ∃ l b xs, x = .ref l ∧ y = .int (b2i b) ∧ SqT K H l xs ∧ xs ≠ [] ∧ (b = true → Q (.ref l) H) ∧ (b = false → ∀ p, H p = none → Q (.ref p) (upd H p (.tup [])))
theorem op_repZ {X : Cx} : OpR X (binaryOp .Mult) (rRepZ X.K) := by
  intro pins s σ H x y v u Q I rx ry h
  obtain ⟨l, b, xs, rfl, rfl, hT, hne, q1, q0⟩ := h
  cases rx
  obtain ⟨t, rfl⟩ := ry
  obtain ⟨its, r, ⟨⟨cls, dd, data, sl⟩, ho, hc, n, hd⟩, hs⟩ := I.tuple hT
  simp only at hc hd
  subst hc hd
  have hle : its.length = xs.length := r.length.symm
  have hn : its ≠ [] := fun e => hne (by
    rw [e] at hle
    exact List.eq_nil_of_length_eq_zero hle.symm)
  have hi : its.toArray.isEmpty = false := by
    cases its with
    | nil => exact absurd rfl hn
    | cons a b => rfl
  cases b with
  | true =>
    refine wpAny_binaryOp_repeat_ref (T := "tuple") (U := "int") (by decide) ⟨_, ho, rfl⟩ (fun s' => typeIs_int s' 1 t) noFill_tuple_mul F.fills_int_mul F.slot_int_rmul repeat_tuple F.slot_int_index.lookup
      (call_meets F.slot_int_rmul (typeIs_int s 1 t) F.entry_int_rmul (F.args_int_rmul_2 _ _) (int_rmul_tuple 1 t l its.toArray n dd sl)
        ⟨ho, rfl, ⟨_, ho, rfl⟩, call_meets F.slot_tuple_mul ⟨_, ho, rfl⟩ F.entry_tuple_mul (F.args_tuple_mul_2 _ _) (tuple_mul1 l its.toArray n dd sl t) ⟨ho, ?_⟩⟩)
    exact ⟨.ref l, H, I, rfl, q1 rfl⟩
  | false =>
    refine wpAny_binaryOp_repeat_ref (T := "tuple") (U := "int") (by decide) ⟨_, ho, rfl⟩ (fun s' => typeIs_int s' 0 t) noFill_tuple_mul F.fills_int_mul F.slot_int_rmul repeat_tuple F.slot_int_index.lookup
      (call_meets F.slot_int_rmul (typeIs_int s 0 t) F.entry_int_rmul (F.args_int_rmul_2 _ _) (int_rmul_tuple 0 t l its.toArray n dd sl)
        ⟨ho, rfl, ⟨_, ho, rfl⟩, call_meets F.slot_tuple_mul ⟨_, ho, rfl⟩ F.entry_tuple_mul (F.args_tuple_mul_2 _ _) (tuple_mul0 l its.toArray n dd sl t hi) ⟨ho, ?_⟩⟩)
    exact ⟨.ref s.heap.objs.size, _, I.laid (t' := s.toks) (o := .tup []) (fun b ob q => Heap.get?_push_of_some _ q) (Nat.le_refl _) ⟨by rw [sizeLine_eq]; decide, [], .nil, IsTup.new _ _⟩, rfl, q0 rfl _ (I.hok.fresh (Nat.le_refl _))⟩
/-! ### a comprehension with a test -/
section
variable {J : It} {n : Nat} {G : Hp → Prop} {Y : Nat → Hp → V → Hp → Prop} {g : TG} {tt : TT} {te : TE} {vs : List Nat} {σ : L2.St} {H1 : Hp} {D : Addr} {Qd : Hp → Prop}
theorem lc_genF (w : Walk J n G Y) (I : Nat → List V → Hp → Prop) (hz : n ≤ 10000000) (h0 : I 0 [] (upd H1 D (.lst []))) (hG : ∀ i ys H, I i ys H → G H)
    (hs : ∀ i ys x H' H'' (Q' : VK) (Z : Hp → Prop), i < n → ys.length ≤ i → H' D = some (.lst ys) → I i ys H' → Y i H' x H'' → (∀ y H4, H4 D = some (.lst ys) → I (i + 1) (ys ++ [y]) (upd H4 D (.lst (ys ++ [y]))) → Q' y H4) → (∀ H4, H4 D = some (.lst ys) → I (i + 1) ys H4 → Z H4) →
      g x (wipe σ vs) H'' fun σ2 H2 => wipe σ2 vs = wipe σ vs ∧ tt σ2 H2 fun b H3 => if b = true then te σ2 H3 Q' else Z H3)
    (hd : ∀ ys H', ys.length ≤ n → H' D = some (.lst ys) → I n ys H' → Qd H') :
    ∃ W : Nat → Nat → Hp → Prop, (∃ m, W 0 m (upd H1 D (.lst []))) ∧ ∀ i m H, W i m H →
      (J.stop i H ∧ Qd H) ∨ (J.go i H ∧ ∃ Nx : Hp → Prop, (∀ H', Nx H' → ∃ m', m' < m ∧ W (i + 1) m' H') ∧ ∀ x H', J.yld i H x H' → g x (wipe σ vs) H' fun σ2 H2 => wipe σ2 vs = wipe σ vs ∧ tt σ2 H2 fun b H3 =>
        if b = true then te σ2 H3 fun y H4 => ∃ acc, H4 D = some (.lst acc) ∧ acc.length < sizeLine ∧ Nx (upd H4 D (.lst (acc ++ [y]))) else Nx H3) := by
  refine lc_it w (fun i H => ∃ ys : List V, ys.length ≤ i ∧ H D = some (.lst ys) ∧ I i ys H) ⟨[], Nat.le_refl _, upd_same, h0⟩ (fun i H _ ⟨ys, _, _, h⟩ => hG i ys H h) ?_ ?_
  · rintro i x H H' hi ⟨ys, hl, hD, h⟩ y
    refine hs i ys x H H' _ _ hi hl hD h y (fun z H4 e4 h4 => ?_) (fun H4 e4 h4 => ⟨ys, by omega, e4, h4⟩)
    refine ⟨ys, e4, ?_, ys ++ [z], by rw [List.length_append]; show ys.length + 1 ≤ i + 1; omega, upd_same, h4⟩
    rw [sizeLine_eq]
    omega
  · rintro H ⟨ys, hl, hD, h⟩
    exact hd ys H hl hD h
end
/-! ### data laid one by one: all that was laid stands on a pile -/
section
variable {K : PySem.W.Frag} {S : List Addr} {H : Hp} {xs ys : List V} {ds es : List PyData} {Q : VK}
theorem DvAll.hd {v : V} {d : PyData} (h : DvAll K H (v :: xs) (d :: ds)) : Dv K H v d := by cases h; assumption
theorem DvAll.tl {v : V} {d : PyData} (h : DvAll K H (v :: xs) (d :: ds)) : DvAll K H xs ds := by cases h; assumption
theorem stT (A : DvAll K (OffS S H) xs ds) (hS : Hid S H) (it : DvAll K (OffS S H) ys es) (hl : ys.length ≤ sizeLine) (q : ∀ v H', Same H H' → Hid S H' → H v = none → H' v = some (.tup ys) → DvAll K (OffS S H') (.ref v :: xs) (.tuple es :: ds) → Q (.ref v) H') :
    ys.length ≤ sizeLine ∧ ∀ p, H p = none → Q (.ref p) (upd H p (.tup ys)) :=
  ⟨hl, fun p hp => q p _ (Same.new hp) (hS.keep (Same.new hp)) hp upd_same (.cons (new_tup hp hS it) (A.keep (Same.new hp).off))⟩
theorem stL (A : DvAll K (OffS S H) xs ds) (hS : Hid S H) (it : DvAll K (OffS S H) ys es) (hl : ys.length ≤ sizeLine) (q : ∀ v H', Same H H' → Hid S H' → H v = none → H' v = some (.lst ys) → DvAll K (OffS S H') (.ref v :: xs) (.list es :: ds) → Q (.ref v) H') :
    ys.length ≤ sizeLine ∧ ∀ p, H p = none → Q (.ref p) (upd H p (.lst ys)) :=
  ⟨hl, fun p hp => q p _ (Same.new hp) (hS.keep (Same.new hp)) hp upd_same (.cons (new_lst hp hS it) (A.keep (Same.new hp).off))⟩
theorem stD (A : DvAll K (OffS S H) xs ds) (hS : Hid S H) (q : ∀ v H', Same H H' → Hid S H' → H v = none → DvAll K (OffS S H') (.ref v :: xs) (.dict [] :: ds) → Q (.ref v) H') :
    ∀ p, H p = none → Q (.ref p) (upd H p (.dK [])) :=
  fun p hp => q p _ (Same.new hp) (hS.keep (Same.new hp)) hp (.cons (new_dic hp hS) (A.keep (Same.new hp).off))
end
/-- hidden lists hide no tuple and no dict -/
theorem ks_off {S : List Addr} {H : Hp} (h : ∀ b ∈ S, ∃ xs, H b = some (.lst xs)) : KS H (OffS S H) := fun a u t e => by
  have n : a ∉ S := fun z => by
    obtain ⟨xs, g⟩ := h a z
    rw [g] at e
    cases e
    rcases t with t | ⟨_, t⟩
    · exact nt_lst t
    · cases t
  rw [off_ne n]; exact e
/-! ### events -/
inductive Evt where
  | tab (i : Ins) | blk (s : Nat) (b : Blk) | ans (a : Ans) | rawT (ns : List Int) | rawB (s : Nat) (ns : List Int) | rawA (ns : List Int)
def EvtV (K : PySem.W.Frag) (H : Hp) (v : V) : Evt → Prop
  | .tab i => ∃ a u, v = .ref a ∧ SqT K H a [.str "table", u] ∧ InsV K H u i
  | .blk s b => ∃ a u, v = .ref a ∧ SqT K H a [.str "block", .int (s : Nat), u] ∧ BlkV K H u b
  | .ans x => ∃ a u, v = .ref a ∧ SqT K H a [.str "answer", u] ∧ AnsV K H u x
  | .rawT ns => ∃ a L, v = .ref a ∧ SqT K H a [.str "table", .ref L] ∧ SqL K H L (ns.map V.int)
  | .rawB s ns => ∃ a L, v = .ref a ∧ SqT K H a [.str "block", .int (s : Nat), .ref L] ∧ SqL K H L (ns.map V.int)
  | .rawA ns => ∃ a L, v = .ref a ∧ SqT K H a [.str "answer", .ref L] ∧ SqL K H L (ns.map V.int)
def rawOk (ns : List Int) : Prop := ns.length ≤ 8 ∧ ∀ o ∈ ns, 0 ≤ o ∧ o < 256
def Evt.Ok : Evt → Prop
  | .tab i => i.Ok
  | .blk s b => s ≤ 20 ∧ b.Ok ∧ b.ls.length ≤ 3
  | .ans x => x.Ok
  | .rawT ns => rawOk ns
  | .rawB s ns => s ≤ 20 ∧ rawOk ns
  | .rawA ns => rawOk ns
theorem InsV.same {K : PySem.W.Frag} {H H' : Hp} {v : V} {i : Ins} (h : InsV K H v i) (s : Same H H') : InsV K H' v i := h.ts (.of s)
theorem AnsV.ts {K : PySem.W.Frag} {H H' : Hp} {v : V} {i : Ans} (h : AnsV K H v i) (t : TS H H') : AnsV K H' v i := let ⟨a, e, g⟩ := h; ⟨a, e, t.tup g⟩
theorem EvtV.keep {K : PySem.W.Frag} {H H' : Hp} {v : V} {e : Evt} (s : Same H H') (h : EvtV K H v e) : EvtV K H' v e := by
  cases e with
  | tab i => obtain ⟨a, u, r, g, k⟩ := h; exact ⟨a, u, r, s.tup g, k.ts (.of s)⟩
  | blk n b => obtain ⟨a, u, r, g, k⟩ := h; exact ⟨a, u, r, s.tup g, k.keep s⟩
  | ans i => obtain ⟨a, u, r, g, k⟩ := h; exact ⟨a, u, r, s.tup g, k.ts (.of s)⟩
  | rawT ns => obtain ⟨a, u, r, g, k⟩ := h; exact ⟨a, u, r, s.tup g, s.seq k⟩
  | rawB n ns => obtain ⟨a, u, r, g, k⟩ := h; exact ⟨a, u, r, s.tup g, s.seq k⟩
  | rawA ns => obtain ⟨a, u, r, g, k⟩ := h; exact ⟨a, u, r, s.tup g, s.seq k⟩
abbrev EvtsV (K : PySem.W.Frag) (H : Hp) (xs : List V) (es : List Evt) : Prop := Paired (EvtV K H) xs es
theorem EvtsV.keep {K : PySem.W.Frag} {H H' : Hp} {xs : List V} {es : List Evt} (s : Same H H') (h : EvtsV K H xs es) : EvtsV K H' xs es := pmap (fun _ _ z => EvtV.keep s z) h
/-- what an event is with its octets -/
def Evt.oct : Evt → List Int
  | .tab i => i.oct
  | .blk _ b => b.oct
  | .ans x => x.oct
  | .rawT ns => ns
  | .rawB _ ns => ns
  | .rawA ns => ns
def octD (ns : List Int) : PyData := .list (ns.map PyData.int)
def Evt.dat : Evt → PyData
  | .tab i => .tuple [.str "table", octD i.oct]
  | .blk s b => .tuple [.str "block", .int (s : Nat), octD b.oct]
  | .ans x => .tuple [.str "answer", octD x.oct]
  | .rawT ns => .tuple [.str "table", octD ns]
  | .rawB s ns => .tuple [.str "block", .int (s : Nat), octD ns]
  | .rawA ns => .tuple [.str "answer", octD ns]
/-- the items of the tuple of an event with its octets at L -/
def Evt.vs (L : Addr) : Evt → List V
  | .tab _ => [.str "table", .ref L]
  | .blk s _ => [.str "block", .int (s : Nat), .ref L]
  | .ans _ => [.str "answer", .ref L]
  | .rawT _ => [.str "table", .ref L]
  | .rawB s _ => [.str "block", .int (s : Nat), .ref L]
  | .rawA _ => [.str "answer", .ref L]
/-- an event of a log -/
def LEv (K : PySem.W.Frag) (H : Hp) (v : V) (e : Evt) : Prop := ∃ a L, v = .ref a ∧ SqT K H a (e.vs L) ∧ SqL K H L (e.oct.map V.int)
theorem LEv.keep {K : PySem.W.Frag} {H H' : Hp} {v : V} {e : Evt} (s : Same H H') (h : LEv K H v e) : LEv K H' v e := let ⟨a, L, r, g, k⟩ := h; ⟨a, L, r, s.tup g, s.seq k⟩
theorem dv_ints {K : PySem.W.Frag} {H : Hp} : ∀ ns : List Int, DvAll K H (ns.map V.int) (ns.map PyData.int)
  | [] => .nil
  | n :: r => .cons (.int n) (dv_ints r)
theorem LEv.dv {K : PySem.W.Frag} {H : Hp} {v : V} {e : Evt} (h : LEv K H v e) : Dv K H v e.dat := by
  obtain ⟨a, L, rfl, g, k⟩ := h
  have l : Dv K H (.ref L) (octD e.oct) := .lst k (dv_ints _)
  cases e with
  | tab i => exact .tup g (.cons (.str _) (.cons l .nil))
  | blk n b => exact .tup g (.cons (.str _) (.cons (.int _) (.cons l .nil)))
  | ans i => exact .tup g (.cons (.str _) (.cons l .nil))
  | rawT ns => exact .tup g (.cons (.str _) (.cons l .nil))
  | rawB n ns => exact .tup g (.cons (.str _) (.cons (.int _) (.cons l .nil)))
  | rawA ns => exact .tup g (.cons (.str _) (.cons l .nil))
theorem evt_octs {e : Evt} (ok : e.Ok) : (∀ o ∈ e.oct, 0 ≤ o ∧ o < 256) ∧ e.oct.length ≤ 300 := by
  cases e with
  | tab i =>
    refine ⟨ins_oct ok, ?_⟩
    cases i with
    | again n => have := numOct_len3 (n := n) (b := 5) (m := 0) ok; show (numOct n 5 0).length ≤ 300; omega
    | limit n => have := numOct_len3 (n := n) (b := 5) (m := 32) ok; show (numOct n 5 32).length ≤ 300; omega
    | fixed n x => have := numOct_len3 (n := n) (b := 6) (m := 192) ok.1; have := strOct_len2 (b := 7) (m := 0) (txt_len ok.2); show (numOct n 6 192 ++ strOct x 7 0).length ≤ 300; rw [List.length_append]; omega
    | entry n x => have := numOct_len3 (n := n) (b := 6) (m := 128) ok.1; have := strOct_len2 (b := 7) (m := 0) (txt_len ok.2); show (numOct n 6 128 ++ strOct x 7 0).length ≤ 300; rw [List.length_append]; omega
    | new y x => have := strOct_len2 (b := 5) (m := 64) (txt_len (txt_20 ok.1)); have := strOct_len2 (b := 7) (m := 0) (txt_len ok.2); show (strOct y 5 64 ++ strOct x 7 0).length ≤ 300; rw [List.length_append]; omega
  | blk s b =>
    obtain ⟨_, hb, hl⟩ := ok
    refine ⟨blk_octs hb, ?_⟩
    have h1 := numOct_len3 (n := b.req) (b := 8) (m := 0) hb.req_
    have h2 := numOct_len3 (n := b.req - b.base) (b := 8) (m := 0) (by have := hb.req_; omega)
    have h3 := lns_len2 (base := b.base) hb.req_ hb.base_ b.ls hb.lns_
    show ((numOct b.req 8 0 ++ numOct (b.req - b.base) 8 0) ++ lnsOct b.base b.ls).length ≤ 300
    rw [List.length_append, List.length_append]; omega
  | ans x =>
    refine ⟨ans_oct ok, ?_⟩
    cases x with
    | done n => have h : n ≤ 20 := ok; have := numOct_len3 (n := n) (b := 7) (m := 128) (by omega); show (numOct n 7 128).length ≤ 300; omega
    | cancelled n => have h : n ≤ 20 := ok; have := numOct_len3 (n := n) (b := 6) (m := 64) (by omega); show (numOct n 6 64).length ≤ 300; omega
    | received n => have := numOct_len3 (n := n) (b := 6) (m := 0) ok.2; show (numOct n 6 0).length ≤ 300; omega
  | rawT ns => exact ⟨ok.2, by have := ok.1; show ns.length ≤ 300; omega⟩
  | rawB s ns => exact ⟨ok.2.2, by have := ok.2.1; show ns.length ≤ 300; omega⟩
  | rawA ns => exact ⟨ok.2, by have := ok.1; show ns.length ≤ 300; omega⟩
theorem sz_octs {ns : List Int} (h : ∀ o ∈ ns, 0 ≤ o ∧ o < 256) (hl : ns.length ≤ 300) : Sz 303604 1 (octD ns) := by
  refine sz_lst' ?_ ?_ ?_
  · refine okVAll_of fun d hd => ?_
    obtain ⟨o, ho, rfl⟩ := List.mem_map.mp hd
    have := h o ho
    exact (sz_int (i := o) (Nat.lt_of_le_of_lt (show o.natAbs ≤ 256 by omega) (by decide +kernel))).ok
  · have : ∀ l : List Int, wVAll (l.map PyData.int) = 1012 * l.length := by
      intro l
      induction l with
      | nil => rfl
      | cons a r ih => rw [List.map_cons, wVAll, ih, List.length_cons, wV]; omega
    rw [this]; omega
  · refine depthAll_le fun d hd => ?_
    obtain ⟨o, ho, rfl⟩ := List.mem_map.mp hd
    rw [PyData.depth]; omega
theorem evt_sz {e : Evt} (ok : e.Ok) : Sz 305000 2 e.dat := by
  obtain ⟨h1, h2⟩ := evt_octs ok
  have z := sz_octs h1 h2
  have two : ∀ {k : PyData}, Sz 92 0 k → Sz 305000 2 (.tuple [k, octD e.oct]) := fun hk =>
    sz_tup' (k := 1) (by rw [okVAll, okVAll, okVAll, hk.ok, z.ok]; rfl) (by rw [wVAll, wVAll, wVAll]; have := hk.w; have := z.w; omega) (by rw [PyData.depthAll, PyData.depthAll, PyData.depthAll]; have := hk.dp; have := z.dp; omega)
  have tri : ∀ {k : PyData} {s : Nat}, Sz 92 0 k → s ≤ 20 → Sz 305000 2 (.tuple [k, .int (s : Nat), octD e.oct]) := fun hk hs => by
    have i := sz_int (i := ((_ : Nat) : Int)) (Nat.lt_of_le_of_lt (Nat.le_trans hs (show 20 ≤ 9999 by decide)) (by decide +kernel))
    exact sz_tup' (k := 1) (by rw [okVAll, okVAll, okVAll, okVAll, hk.ok, z.ok, i.ok]; rfl) (by rw [wVAll, wVAll, wVAll, wVAll]; have := hk.w; have := z.w; have := i.w; omega) (by rw [PyData.depthAll, PyData.depthAll, PyData.depthAll, PyData.depthAll]; have := hk.dp; have := z.dp; have := i.dp; omega)
  cases e with
  | tab i => exact two ⟨by decide, by decide, by decide⟩
  | blk s b => exact tri ⟨by decide, by decide, by decide⟩ ok.1
  | ans x => exact two ⟨by decide, by decide, by decide⟩
  | rawT ns => exact two ⟨by decide, by decide, by decide⟩
  | rawB s ns => exact tri ⟨by decide, by decide, by decide⟩ ok.1
  | rawA ns => exact two ⟨by decide, by decide, by decide⟩
/-! ### the check of an event, of a log -/
def dEv : PyData → Bool
  | .tuple [k, o] => [("table" : Str), "answer"].any (fun z => isS k z) && dOctets o
  | .tuple [k, s, o] => isS k "block" && (dBtw s 0 20 && dOctets o)
  | _ => false
def dLog : PyData → Bool
  | .list ds => decide (ds.length ≤ 40) && ds.all dEv
  | _ => false
theorem dEv_no {d : PyData} (e : subT (tyD d) "tuple" = false) : dEv d = false := by cases d <;> first | rfl | cases e
theorem dLog_no {d : PyData} (e : subT (tyD d) "list" = false) : dLog d = false := by cases d <;> first | rfl | cases e
theorem dEv_ne {ds : List PyData} (h2 : ds.length ≠ 2) (h3 : ds.length ≠ 3) : dEv (.tuple ds) = false := by
  match ds, h2, h3 with
  | [], _, _ => rfl
  | [_], _, _ => rfl
  | [_, _], h, _ => exact absurd rfl h
  | [_, _, _], _, h => exact absurd rfl h
  | _ :: _ :: _ :: _ :: _, _, _ => rfl
theorem Dv.asI {K : PySem.W.Frag} {H : Hp} {v : V} {d : PyData} (h : Dv K H v d) (e : subT (tyD d) "int" = true) (e2 : subT (tyD d) "bool" = false) : ∃ i, v = .int i ∧ d = .int i := by
  cases h <;> first | exact ⟨_, rfl, rfl⟩ | simp_all [tyD, subT]
theorem dBtw_no {d : PyData} {a b : Int} (e : subT (tyD d) "int" = false) : dBtw d a b = false := by
  cases d <;> simp_all [tyD, subT, dBtw]
theorem dBtw_bool {d : PyData} {a b : Int} (e : subT (tyD d) "bool" = true) : dBtw d a b = false := by
  cases d <;> simp_all [tyD, subT, dBtw]
theorem evK (z : Str) : inV (.str z) [.str "table", .str "answer", .str "block"] = (isS (.str z) "table" || (isS (.str z) "answer" || isS (.str z) "block")) := by
  have h : ∀ y : Str, decide (y = z) = isS (.str z) y := fun y => decide_eq_decide.mpr ⟨fun h => h.symm, fun h => h.symm⟩
  show (decide _ || (decide _ || (decide _ || false))) = _
  rw [h, h, h, Bool.or_false]
end Fld
/-! sorted of (int, int, line): lines are compared up to their first difference -/
namespace Ob
open PySem PySem.SeqAt
open PySem.AutoSeq1 (wpAny_loadPart')
open PySem.MeetsSeq PySem.MeetsSeq2 PySem.MeetsSeq3
/-- t < u where only the first pair that differs has an order -/
theorem tuple_ltF (l b : Addr) (items items2 : Array Value) (n n2 : Nat) (dd dd2 : Option Addr) (sl sl2 : Array (Option Value)) (e r : Nat → Bool) :
    Meets (Builtin.«tuple.__lt__» ⟨[.ref l, .ref b], []⟩)
      (fun A R s => s.heap.get? l = some { cls := .type "tuple", dict := dd, data := .seq items n, slots := sl } ∧ s.heap.get? b = some { cls := .type "tuple", dict := dd2, data := .seq items2 n2, slots := sl2 } ∧
        (∀ j (h1 : j < items.size) (h2 : j < items2.size), EqAt A.in1 s items[j] items2[j] (e j)) ∧
        (∀ j (h1 : j < items.size) (h2 : j < items2.size), (∀ k, k < j → e k = true) → e j = false → RcOp .Lt A.in1 s items[j] items2[j] (r j)) ∧
        R (.ok (.ret (.bool (lexAt e r (decide (items.size < items2.size)) 0 (min items.size items2.size))))) s) :=
  .of_wp fun prog w A R s h => by
    obtain ⟨hp, g, d, tk, os⟩ := s; obtain ⟨hl, hb, he, hr, h⟩ := h
    have f2 := AutoSeq1.sub_tuple_tuple
    have hZ : (items.toList.zip items2.toList).length = min items.size items2.size := by simp
    wp_walk using wpAny_loadPart' hl, wpAny_loadPart' hb, wpAny_forIn_list _ (fun rest b s' => b.1 = none ∧ s' = ⟨hp, g, d, tk, os⟩ ∧ ∃ i, rest = (items.toList.zip items2.toList).drop i ∧ (∀ k, k < i → e k = true) ∧
      R (.ok (.ret (.bool (lexAt e r (decide (items.size < items2.size)) i (min items.size items2.size - i))))) ⟨hp, g, d, tk, os⟩) _
    case turn =>
      rintro ⟨y, x⟩ rest b s' ⟨hb', rfl, i, hz, hpre, hR⟩
      have hlt : i < (items.toList.zip items2.toList).length := by
        rcases Nat.lt_or_ge i (items.toList.zip items2.toList).length with h' | h'
        · exact h'
        · rw [List.drop_of_length_le h'] at hz; cases hz
      have hm : i < min items.size items2.size := hZ ▸ hlt
      have h1 : i < items.size := Nat.lt_of_lt_of_le hm (Nat.min_le_left _ _)
      have h2 : i < items2.size := Nat.lt_of_lt_of_le hm (Nat.min_le_right _ _)
      rw [List.drop_eq_getElem_cons hlt] at hz
      injection hz with hyx hrest
      have hy : y = items[i] := by have := congrArg Prod.fst hyx; simpa using this
      have hx : x = items2[i] := by have := congrArg Prod.snd hyx; simpa using this
      subst hy hx
      rw [show min items.size items2.size - i = (min items.size items2.size - (i + 1)) + 1 by omega, lexAt_succ] at hR
      refine wpAny_bind (he i h1 h2 prog w _ _ ?_)
      cases hei : e i with
      | true =>
        rw [hei, if_pos rfl] at hR
        wp_walk
        refine ⟨rfl, rfl, i + 1, hrest, fun k hk => ?_, hR⟩
        rcases Nat.lt_or_ge k i with q | q
        · exact hpre k q
        · rw [show k = i by omega]; exact hei
      | false =>
        rw [hei, if_neg Bool.false_ne_true] at hR
        have hri := hr i h1 h2 hpre hei prog w
        wp_walk using hri
        exact ⟨_, rfl, by simpa using hR⟩
    case fin =>
      rintro ⟨b1, b2⟩ s' ⟨hb', rfl, i, hz, _, hR⟩
      simp only at hb'
      subst hb'
      have hge : min items.size items2.size ≤ i := by
        rcases Nat.lt_or_ge i (items.toList.zip items2.toList).length with h' | h'
        · rw [List.drop_eq_getElem_cons h'] at hz; cases hz
        · exact hZ ▸ h'
      rw [Nat.sub_eq_zero_of_le hge, lexAt_zero] at hR
      wp_walk
      exact ⟨_, rfl, by simpa [Builtin.Tuple.tupleCompareSizes] using hR⟩
    case h =>
      exact ⟨rfl, rfl, 0, rfl, fun k hk => absurd hk (Nat.not_lt_zero _), by simpa using h⟩
theorem RcOp.tuples_ltF {A : Around} {s : Shared} {l b : Addr} {items items2 : Array Value} {e r : Nat → Bool} (hl : s.heap.IsTuple l items) (hb : s.heap.IsTuple b items2) (hu : A.units < cLine)
    (he : ∀ j (h1 : j < items.size) (h2 : j < items2.size), EqAt A.in1 s items[j] items2[j] (e j))
    (hr : ∀ j (h1 : j < items.size) (h2 : j < items2.size), (∀ k, k < j → e k = true) → e j = false → RcOp .Lt A.in1 s items[j] items2[j] (r j)) :
    RcOp .Lt A s (.ref l) (.ref b) (lexAt e r (decide (items.size < items2.size)) 0 (min items.size items2.size)) := fun prog w E Q h => by
  obtain ⟨⟨cls, dd, data, sl⟩, ho, hc, n, hd⟩ := id hl
  obtain ⟨⟨cls2, dd2, data2, sl2⟩, ho2, hc2, n2, hd2⟩ := id hb
  simp only at hc hd hc2 hd2
  subst hc hd hc2 hd2
  exact richCompare_meets_room (op := .Lt) ⟨_, ho, rfl⟩ ⟨_, ho2, rfl⟩ F.slot_tuple_lt F.entry_tuple_lt (F.args_tuple_lt_2 _ _) (tuple_ltF l b items items2 n n2 dd dd2 sl sl2 e r)
    ⟨ho, ho2, he, hr, ⟨(fun x => nomatch x), h⟩⟩ hu
end Ob

namespace Fld
open PySem PySem.Spec PyProof.Rows L2
/-! ### the order -/
def tokV : V → Int ⊕ List Nat
  | .int i => .inl i
  | .str x => .inr x.cps.toList
  | _ => .inl 0
def Tk (v : V) : Prop := (∃ i, v = .int i) ∨ ∃ x, v = .str x
theorem tok_inj {a b : V} (ha : Tk a) (hb : Tk b) (e : tokV a = tokV b) : a = b := by
  rcases ha with ⟨i, rfl⟩ | ⟨x, rfl⟩ <;> rcases hb with ⟨j, rfl⟩ | ⟨y, rfl⟩
  · have : i = j := by injection e
    rw [this]
  · exact absurd (show Sum.inl i = Sum.inr _ from e) (by simp)
  · exact absurd (show Sum.inr _ = Sum.inl j from e) (by simp)
  · have h : x.cps.toList = y.cps.toList := by injection e
    rw [PySem.W.str_of_cps h]
abbrev lexT (a b : List (Int ⊕ List Nat)) : Bool := PyProof.Rows.lexLt itemOrd a b
theorem swo_lexT {α : Type} (k : α → List (Int ⊕ List Nat)) : SrtO.Swo fun x y => lexT (k x) (k y) := by
  refine ⟨fun x y h => ?_, fun x y z h1 h2 => ?_⟩
  · cases e : lexT (k y) (k x) with
    | false => rfl
    | true =>
      have := lex_trans (O := itemOrd) _ _ _ h e
      rw [lex_irrefl] at this
      cases this
  · cases e : lexT (k z) (k x) with
    | false => rfl
    | true =>
      rcases lex_negTrans (O := itemOrd) (k z) (k y) (k x) e with q | q
      · rw [show PyProof.Rows.lexLt itemOrd (k z) (k y) = false from h2] at q; cases q
      · rw [show PyProof.Rows.lexLt itemOrd (k y) (k x) = false from h1] at q; cases q
theorem lexAt_tok {e r : Nat → Bool} : ∀ {vs ws : List V} {i : Nat}, (∀ v ∈ vs, Tk v) → (∀ v ∈ ws, Tk v) → (∀ j v w, vs[j]? = some v → ws[j]? = some w → e (i + j) = decide (v = w) ∧ r (i + j) = itemLt (tokV v) (tokV w)) →
    Ob.lexAt e r (decide (vs.length < ws.length)) i (min vs.length ws.length) = lexT (vs.map tokV) (ws.map tokV)
  | [], [], _, _, _, _ => rfl
  | [], _ :: _, _, _, _, _ => by
    show Ob.lexAt e r _ _ (min 0 _) = _
    rw [Nat.zero_min]
    rfl
  | _ :: _, [], _, _, _, _ => by
    show Ob.lexAt e r _ _ (min _ 0) = _
    rw [Nat.min_zero]
    rfl
  | v :: vs, w :: ws, i, h1, h2, h => by
    have z := h 0 v w rfl rfl
    have ih := lexAt_tok (vs := vs) (ws := ws) (i := i + 1) (fun x m => h1 x (List.mem_cons_of_mem _ m)) (fun x m => h2 x (List.mem_cons_of_mem _ m)) (e := e) (r := r) fun j a b ea eb => by
      have := h (j + 1) a b ea eb
      rw [show i + (j + 1) = i + 1 + j by omega] at this
      exact this
    rw [List.length_cons, List.length_cons, show min (vs.length + 1) (ws.length + 1) = min vs.length ws.length + 1 by omega, Ob.lexAt_succ, show decide (vs.length + 1 < ws.length + 1) = decide (vs.length < ws.length) by simp, ih, List.map_cons, List.map_cons]
    rw [Nat.add_zero] at z
    rw [z.1, z.2]
    by_cases q : v = w
    · subst q
      rw [decide_eq_true rfl, if_pos rfl]
      exact (lex_self (O := itemOrd) _ _ _).symm
    · rw [decide_eq_false q, if_neg (by simp)]
      exact (lex_diff (O := itemOrd) fun t => q (tok_inj (h1 v (List.mem_cons_self ..)) (h2 w (List.mem_cons_self ..)) t)).symm
theorem ln_tk (l : Ln) : ∀ v ∈ l.vs, Tk v := by
  intro v m
  cases l <;> simp only [Ln.vs, List.mem_cons, List.mem_nil_iff, or_false] at m <;> rcases m with rfl | rfl | rfl <;> first | exact .inl ⟨_, rfl⟩ | exact .inr ⟨_, rfl⟩
theorem ln_tk2 (l : Ln) : ∀ v ∈ l.vs, Tk v := by
  intro v m
  exact ln_tk l v m
/-- the first place where two lines differ has values of one kind -/
theorem ln_kind (l m : Ln) : ∀ (j : Nat) (v w : V), l.vs[j]? = some v → m.vs[j]? = some w → (∀ k, k < j → l.vs[k]? = m.vs[k]?) → (∃ a b, v = V.int a ∧ w = V.int b) ∨ ∃ x y, v = V.str x ∧ w = V.str y := by
  have aux : ∀ (a b : Str) (r q : List V), a ≠ b → ∀ (j : Nat) (v w : V), (V.str a :: r)[j]? = some v → (V.str b :: q)[j]? = some w → (∀ k, k < j → (V.str a :: r)[k]? = (V.str b :: q)[k]?) → (∃ a b, v = V.int a ∧ w = V.int b) ∨ ∃ x y, v = V.str x ∧ w = V.str y := by
    intro a b r q ne j v w ev ew h
    cases j with
    | zero => exact .inr ⟨a, b, (Option.some.inj ev).symm, (Option.some.inj ew).symm⟩
    | succ j => exact absurd (V.str.inj (Option.some.inj (h 0 (Nat.succ_pos _)))) ne
  have two : ∀ (a : Str) (n k : Nat) (r q : List V), (∀ v ∈ r, ∃ x, v = V.str x) → (∀ v ∈ q, ∃ x, v = V.str x) → ∀ (j : Nat) (v w : V), (V.str a :: V.int (n : Nat) :: r)[j]? = some v → (V.str a :: V.int (k : Nat) :: q)[j]? = some w → (∃ a b, v = V.int a ∧ w = V.int b) ∨ ∃ x y, v = V.str x ∧ w = V.str y := by
    intro a n k r q hr hq j v w ev ew
    match j with
    | 0 => exact .inr ⟨a, a, (Option.some.inj ev).symm, (Option.some.inj ew).symm⟩
    | 1 => exact .inl ⟨_, _, (Option.some.inj ev).symm, (Option.some.inj ew).symm⟩
    | j + 2 =>
      obtain ⟨x, hx⟩ := hr v (List.mem_of_getElem? (show r[j]? = some v from ev))
      obtain ⟨y, hy⟩ := hq w (List.mem_of_getElem? (show q[j]? = some w from ew))
      exact .inr ⟨x, y, hx, hy⟩
  have nn : ∀ v ∈ ([] : List V), ∃ x, v = V.str x := fun v m => absurd m (by simp)
  have on : ∀ x : Str, ∀ v ∈ [V.str x], ∃ x, v = V.str x := fun x v m => ⟨x, List.mem_singleton.mp m⟩
  intro j v w ev ew h
  cases l <;> cases m
  case fix1.fix1 => exact two _ _ _ _ _ nn nn j v w ev ew
  case fix1.fix2 => exact two _ _ _ _ _ nn (on _) j v w ev ew
  case fix2.fix1 => exact two _ _ _ _ _ (on _) nn j v w ev ew
  case fix2.fix2 => exact two _ _ _ _ _ (on _) (on _) j v w ev ew
  case ent1.ent1 => exact two _ _ _ _ _ nn nn j v w ev ew
  case ent1.ent2 => exact two _ _ _ _ _ nn (on _) j v w ev ew
  case ent2.ent1 => exact two _ _ _ _ _ (on _) nn j v w ev ew
  case ent2.ent2 => exact two _ _ _ _ _ (on _) (on _) j v w ev ew
  case out.out => match j with
    | 0 => exact .inr ⟨_, _, (Option.some.inj ev).symm, (Option.some.inj ew).symm⟩
    | 1 => exact .inr ⟨_, _, (Option.some.inj ev).symm, (Option.some.inj ew).symm⟩
    | 2 => exact .inr ⟨_, _, (Option.some.inj ev).symm, (Option.some.inj ew).symm⟩
    | j + 3 => exact absurd (show (none : Option V) = some v from ev) (by simp)
  all_goals exact aux _ _ _ _ (by decide) j v w ev ew h

/-! ### the values compared -/
abbrev Tri := Int × Int × Ln
def triKey (t : Tri) : List (Int ⊕ List Nat) := Sum.inl t.1 :: Sum.inl t.2.1 :: t.2.2.vs.map tokV
def triLt (x y : Tri) : Bool := lexT (triKey x) (triKey y)
theorem tk_eqAt {A : Around} {s : Shared} {a b : V} {u v : Value} (ha : Tk a) (hb : Tk b) (ra : RelV a u) (rb : RelV b v) : SeqAt.EqAt A s u v (decide (a = b)) := by
  rcases ha with ⟨i, rfl⟩ | ⟨x, rfl⟩ <;> rcases hb with ⟨j, rfl⟩ | ⟨y, rfl⟩ <;> obtain ⟨t, rfl⟩ := ra <;> obtain ⟨t', rfl⟩ := rb
  · have e : decide (V.int i = V.int j) = (i == j) := by
      rw [Bool.eq_iff_iff, decide_eq_true_eq, beq_iff_eq]
      exact ⟨V.int.inj, fun h => by rw [h]⟩
    rw [e]
    exact SeqAt.EqAt.int_int _ _ _ _
  · rw [decide_eq_false (fun h => nomatch h)]
    exact SeqAt.EqAt.int_str _ _ _ _
  · rw [decide_eq_false (fun h => nomatch h)]
    exact SeqAt.EqAt.str_int _ _ _ _
  · have e : decide (V.str x = V.str y) = (x == y) := by
      rw [Bool.eq_iff_iff, decide_eq_true_eq, beq_iff_eq]
      exact ⟨V.str.inj, fun h => by rw [h]⟩
    rw [e]
    exact SeqAt.EqAt.str_str _ _ _ _
theorem tk_lt {A : Around} {s : Shared} {a b : V} {u v : Value} (h : (∃ i j, a = V.int i ∧ b = V.int j) ∨ ∃ x y, a = V.str x ∧ b = V.str y) (ra : RelV a u) (rb : RelV b v) : Ob.RcOp .Lt A s u v (itemLt (tokV a) (tokV b)) := by
  rcases h with ⟨i, j, rfl, rfl⟩ | ⟨x, y, rfl, rfl⟩ <;> obtain ⟨t, rfl⟩ := ra <;> obtain ⟨t', rfl⟩ := rb
  · exact Ob.RcOp.lt_int _ _ _ _
  · intro prog w E Q q
    exact PyProof.Rows.lt_str q
/-- a line as the heap has it -/
def LnAt (h : Heap) (v : Value) (l : Ln) : Prop := ∃ a us, v = .ref a ∧ h.IsTuple a us.toArray ∧ Vals l.vs us
def TriAt (h : Heap) (v : Value) (t : Tri) : Prop := ∃ a o p q n ln, v = .ref a ∧ h.get? a = some o ∧ o.cls = .type "tuple" ∧ o.data = .seq #[.int t.1 p, .int t.2.1 q, ln] n ∧ LnAt h ln t.2.2
theorem LnAt.keeps {h h' : Heap} {v : Value} {l : Ln} (p : LnAt h v l) (k : ∀ b o, h.get? b = some o → o.cls = .type "tuple" → h'.get? b = some o) : LnAt h' v l := by
  obtain ⟨a, us, e, ⟨o, ho, hc, n, hd⟩, r⟩ := p
  exact ⟨a, us, e, ⟨o, k _ _ ho hc, hc, n, hd⟩, r⟩
theorem TriAt.keeps {h h' : Heap} {v : Value} {t : Tri} (p : TriAt h v t) (k : ∀ b o, h.get? b = some o → o.cls = .type "tuple" → h'.get? b = some o) : TriAt h' v t := by
  obtain ⟨a, o, i, j, n, ln, e, ho, hc, hd, hl⟩ := p
  exact ⟨a, o, i, j, n, ln, e, k _ _ ho hc, hc, hd, hl.keeps k⟩
section
variable {prog : Program} {w : World} {A : Around} {E : Value → Shared → Prop} {s : Shared}
theorem vals_at {vs : List V} {us : List Value} (r : Vals vs us) {j : Nat} (h : j < us.toArray.size) : ∃ v, vs[j]? = some v ∧ RelV v us.toArray[j] := by
  have h' : j < us.length := by simpa using h
  obtain ⟨v, ev, rv⟩ := p_at' r (List.getElem?_eq_getElem h')
  exact ⟨v, ev, by simpa using rv⟩
theorem tk_uniq {a b : V} {u : Value} (ha : Tk a) (hb : Tk b) (ra : RelV a u) (rb : RelV b u) : a = b := by
  rcases ha with ⟨i, rfl⟩ | ⟨x, rfl⟩ <;> rcases hb with ⟨j, rfl⟩ | ⟨y, rfl⟩ <;> obtain ⟨t, rfl⟩ := ra <;> obtain ⟨t', e⟩ := rb <;> cases e <;> rfl
theorem tks_uniq : ∀ {vs ws : List V} {us : List Value}, (∀ v ∈ vs, Tk v) → (∀ v ∈ ws, Tk v) → Vals vs us → Vals ws us → vs = ws
  | [], _, _, _, _, r, q => by cases r; cases q; rfl
  | v :: vs, _, _, h1, h2, r, q => by
    cases r with
    | cons r1 r2 =>
      cases q with
      | cons q1 q2 =>
        rw [tk_uniq (h1 _ (List.mem_cons_self ..)) (h2 _ (List.mem_cons_self ..)) r1 q1, tks_uniq (fun z m => h1 z (List.mem_cons_of_mem _ m)) (fun z m => h2 z (List.mem_cons_of_mem _ m)) r2 q2]
theorem all_eq_iff {vs ws : List V} : ((List.range (min vs.length ws.length)).all (fun j => decide (vs.getD j .non = ws.getD j .non)) && (vs.length == ws.length)) = decide (vs = ws) := by
  rw [Bool.eq_iff_iff, Bool.and_eq_true, List.all_eq_true, beq_iff_eq, decide_eq_true_eq]
  constructor
  · rintro ⟨h, e⟩
    refine List.ext_getElem e fun j h1 h2 => ?_
    have := of_decide_eq_true (h j (List.mem_range.mpr (by omega)))
    rw [List.getD_eq_getElem?_getD, List.getD_eq_getElem?_getD, List.getElem?_eq_getElem h1, List.getElem?_eq_getElem h2] at this
    exact this
  · rintro rfl
    exact ⟨fun _ _ => decide_eq_true rfl, rfl⟩
theorem ln_eqAt {a b : Value} {l m : Ln} (ha : LnAt s.heap a l) (hb : LnAt s.heap b m) (hu : A.units + 64 < cLine) : SeqAt.EqAt A s a b (decide (l.vs = m.vs)) := by
  obtain ⟨x, us, rfl, hx, rx⟩ := ha
  obtain ⟨y, ws, rfl, hy, ry⟩ := hb
  by_cases e : x = y
  · subst e
    obtain ⟨o, ho, hc, n, hd⟩ := hx
    obtain ⟨o', ho', hc', n', hd'⟩ := hy
    have eo : o = o' := Option.some.inj (ho.symm.trans ho')
    subst eo
    have ed := hd.symm.trans hd'
    have eu : us = ws := by
      have : us.toArray = ws.toArray := by injection ed
      simpa using this
    subst eu
    rw [tks_uniq (ln_tk l) (ln_tk m) rx ry, decide_eq_true rfl]
    exact SeqAt.EqAt.same _
  · have e1 : us.toArray.size = l.vs.length := by rw [List.size_toArray]; exact (p_len rx).symm
    have e2 : ws.toArray.size = m.vs.length := by rw [List.size_toArray]; exact (p_len ry).symm
    have R := SeqAt.RcAt.tuples (A := A) (s := s) (e := fun j => decide (l.vs.getD j .non = m.vs.getD j .non)) hx hy (by omega) fun j h1 h2 => by
      obtain ⟨v, ev, rv⟩ := vals_at rx h1
      obtain ⟨u, eu, ru⟩ := vals_at ry h2
      rw [List.getD_eq_getElem?_getD, List.getD_eq_getElem?_getD, ev, eu]
      exact tk_eqAt (ln_tk l _ (List.mem_of_getElem? ev)) (ln_tk m _ (List.mem_of_getElem? eu)) rv ru
    rw [e1, e2, all_eq_iff] at R
    exact SeqAt.EqAt.of_refs e R
theorem ln_lt {a b : Value} {l m : Ln} (ha : LnAt s.heap a l) (hb : LnAt s.heap b m) (hu : A.units + 64 < cLine) : Ob.RcOp .Lt A s a b (lexT (l.vs.map tokV) (m.vs.map tokV)) := by
  obtain ⟨x, us, rfl, hx, rx⟩ := ha
  obtain ⟨y, ws, rfl, hy, ry⟩ := hb
  have e1 : us.toArray.size = l.vs.length := by rw [List.size_toArray]; exact (p_len rx).symm
  have e2 : ws.toArray.size = m.vs.length := by rw [List.size_toArray]; exact (p_len ry).symm
  have R := Ob.RcOp.tuples_ltF (A := A) (s := s) (e := fun j => decide (l.vs.getD j .non = m.vs.getD j .non)) (r := fun j => itemLt (tokV (l.vs.getD j .non)) (tokV (m.vs.getD j .non))) hx hy (by omega) (fun j h1 h2 => by
    obtain ⟨v, ev, rv⟩ := vals_at rx h1
    obtain ⟨u, eu, ru⟩ := vals_at ry h2
    rw [List.getD_eq_getElem?_getD, List.getD_eq_getElem?_getD, ev, eu]
    exact tk_eqAt (ln_tk l _ (List.mem_of_getElem? ev)) (ln_tk m _ (List.mem_of_getElem? eu)) rv ru) (fun j h1 h2 pre _ => by
    obtain ⟨v, ev, rv⟩ := vals_at rx h1
    obtain ⟨u, eu, ru⟩ := vals_at ry h2
    rw [List.getD_eq_getElem?_getD, List.getD_eq_getElem?_getD, ev, eu]
    refine tk_lt (ln_kind l m j v u ev eu fun k hk => ?_) rv ru
    have := of_decide_eq_true (pre k hk)
    have k1 : k < l.vs.length := by omega
    have k2 : k < m.vs.length := by omega
    rw [List.getD_eq_getElem?_getD, List.getD_eq_getElem?_getD, List.getElem?_eq_getElem k1, List.getElem?_eq_getElem k2] at this
    rw [List.getElem?_eq_getElem k1, List.getElem?_eq_getElem k2]
    exact congrArg some this)
  rw [e1, e2, lexAt_tok (ln_tk l) (ln_tk m) fun j v u ev eu => by
    rw [Nat.zero_add]
    constructor
    · rw [List.getD_eq_getElem?_getD, List.getD_eq_getElem?_getD, ev, eu] <;> rfl
    · rw [List.getD_eq_getElem?_getD, List.getD_eq_getElem?_getD, ev, eu] <;> rfl] at R
  exact R
theorem tri_cmp {vs : List Value} {k : Value → Tri} (hu : A.units + 64 < cLine) (hp : ∀ v ∈ vs, TriAt s.heap v (k v)) : SrtO.Cmp prog w A s (tuples' true) (fun p => p.1 ∈ vs) (SrtO.lt2 fun v u => triLt (k v) (k u)) := by
  intro p q hm hm'
  have h1 := hp _ hm
  have h2 := hp _ hm'
  show wpAny (model prog w) A (keyLt' (tuples' true) p.1 q.1) (fun r s' => s' = s ∧ r = triLt (k p.1) (k q.1)) (fun _ _ => False) s
  generalize k p.1 = x at h1 ⊢
  generalize k q.1 = y at h2 ⊢
  obtain ⟨x1, x2, l⟩ := x
  obtain ⟨y1, y2, m⟩ := y
  obtain ⟨a, o, t, u, n, ln, e, ho, hc, hd, hl⟩ := h1
  obtain ⟨a', o', t', u', n', ln', e', ho', hc', hd', hl'⟩ := h2
  rw [e, e']
  have z1 : ∀ (p q : Int) (l m : List (Int ⊕ List Nat)), p = q → lexT (.inl p :: l) (.inl q :: m) = lexT l m := fun p q l m h => by rw [h]; exact lex_self (O := itemOrd) _ _ _
  have z2 : ∀ (p q : Int) (l m : List (Int ⊕ List Nat)), p ≠ q → lexT (.inl p :: l) (.inl q :: m) = decide (p < q) := fun p q l m h => lex_diff (O := itemOrd) (fun z => h (by injection z))
  show wpAny (model prog w) A (keyLt' (tuples' true) (.ref a) (.ref a')) (fun r s' => s' = s ∧ r = lexT (.inl x1 :: .inl x2 :: l.vs.map tokV) (.inl y1 :: .inl y2 :: m.vs.map tokV)) (fun _ _ => False) s
  refine PySem.W.kat_lt ho hd ho' hd' ?_
  show PySem.W.KatLex prog w A true (decide (3 < 3)) _ [(.int x1 t, .int y1 t'), (.int x2 u, .int y2 u'), (ln, ln')] 0 s
  refine PySem.W.kat_cons (SeqAt.EqAt.int_int x1 t y1 t' prog w _ _ ?_)
  refine PySem.W.kat_go (fun e1 => ?_) (fun e1 => ?_)
  · have ex : x1 = y1 := by simpa using e1
    rw [z1 _ _ _ _ ex]
    refine PySem.W.kat_yes (PySem.W.kat_cons (SeqAt.EqAt.int_int x2 u y2 u' prog w _ _ ?_))
    refine PySem.W.kat_go (fun e2 => ?_) (fun e2 => ?_)
    · have ey : x2 = y2 := by simpa using e2
      rw [z1 _ _ _ _ ey]
      refine PySem.W.kat_yes (PySem.W.kat_cons (ln_eqAt hl hl' hu prog w _ _ ?_))
      refine PySem.W.kat_go (fun e3 => ?_) (fun e3 => ?_)
      · have ez : l.vs = m.vs := of_decide_eq_true e3
        refine PySem.W.kat_yes (PySem.W.kat_nil ⟨rfl, ?_⟩)
        rw [ez, show lexT (m.vs.map tokV) (m.vs.map tokV) = false from lex_irrefl _]
        rfl
      · exact PySem.W.kat_no (PySem.W.kat_one _ _ (ln_lt hl hl' hu prog w _ _ ⟨rfl, rfl⟩))
    · have ey : x2 ≠ y2 := by simpa using e2
      rw [z2 _ _ _ _ ey]
      refine PySem.W.kat_no (PySem.W.kat_one _ _ (PyProof.Rows.lt_int ?_))
      exact ⟨rfl, rfl⟩
  · have ex : x1 ≠ y1 := by simpa using e1
    rw [z2 _ _ _ _ ex]
    exact PySem.W.kat_no (PyProof.Rows.oneLt_int ⟨rfl, rfl⟩)
theorem tri_firsts {h : Heap} : ∀ {vs : List Value} {k : Value → Tri}, (∀ v ∈ vs, TriAt h v (k v)) → ∃ fs : List Value, PySem.W.KatTups h vs fs ∧ fs.length = vs.length ∧ ∀ f ∈ fs, ∃ x t, f = Value.int x t
  | [], _, _ => ⟨[], PySem.W.KatTups.nil, rfl, fun _ hm => by simp at hm⟩
  | v :: vs, k, hp => by
    obtain ⟨fs, h1, h2, h3⟩ := tri_firsts (vs := vs) (k := k) fun v' hm => hp v' (List.mem_cons_of_mem _ hm)
    obtain ⟨a, o, t, u, n, ln, e, ho, hc, hd, _⟩ := hp v (List.mem_cons_self ..)
    subst e
    refine ⟨.int (k (.ref a)).1 t :: fs, PySem.W.KatTups.cons ho hc hd rfl h1, by rw [List.length_cons, List.length_cons, h2], fun f hm => ?_⟩
    rcases List.mem_cons.mp hm with rfl | hm
    · exact ⟨_, t, rfl⟩
    · exact h3 f hm
theorem tri_sortable {a : Addr} {vs : List Value} {k : Value → Tri} (hu : A.units + 64 < cLine) (h0 : 0 < vs.length) (hp : ∀ v ∈ vs, TriAt s.heap v (k v)) (ha : ∀ o, s.heap.get? a = some o → o.cls ≠ .type "tuple") : SrtO.SortableO prog w A s a vs fun v u => triLt (k v) (k u) := by
  intro h' keep
  have hp' : ∀ v ∈ vs, TriAt h' v (k v) := fun v hm => (hp v hm).keeps fun b o e c => keep b o (fun z => by subst z; exact ha o e c) e
  obtain ⟨fs, h1, h2, h3⟩ := tri_firsts hp'
  refine ⟨tuples' true, fun Q E hq => ?_, tri_cmp (s := { s with heap := h' }) hu hp'⟩
  refine PySem.W.kat_kind (T := .type "int") h1 (by omega) (fun f hm => ?_) (by rfl) ?_
  · obtain ⟨x, t, rfl⟩ := h3 f hm
    exact PySem.W.Looks.now
  · have e : (Value.type "int" != Value.type "tuple") = true := by first | decide +kernel | rfl | decide
    rw [e]
    exact hq
theorem sorted_tri {l : Addr} {vs : List Value} {k : Value → Tri} {Q : Value → Shared → Prop} (hu : A.units + 70 < cLine) (hl : s.heap.IsList l vs.toArray) (hz : vs.length ≤ sizeLine) (hp : ∀ v ∈ vs, TriAt s.heap v (k v))
    (h : ∀ (h' : Heap) (d : Addr) (out : List Value), SrtO.Srtd (fun v u => triLt (k v) (k u)) out → SrtO.Stb (fun v u => triLt (k v) (k u)) out vs → (∀ b o, s.heap.get? b = some o → h'.get? b = some o) → s.heap.objs.size ≤ d → (∃ n, h'.get? d = some (seqObj "list" out.toArray n)) → Q (.ref d) { s with heap := h' }) :
    wpAny (model prog w) A (call (.builtin "sorted") [.ref l]) Q E s := by
  refine SrtO.sorted_ord (swo_lexT fun v => triKey (k v)) hl hz (fun h2 h₁ a ha kk => ?_) fun out hs hb => ?_
  · refine tri_sortable (s := { s with heap := h₁ }) (by show A.units + 1 + 1 + 64 < cLine; omega) (by omega) (fun v hm => (hp v hm).keeps fun b o e _ => (kk b o e).2) fun o e => ?_
    have e' : some o = some (seqObj "list" vs.toArray 0) := e.symm.trans ha
    cases e'
    intro c
    exact absurd (Value.type.inj c) (by decide)
  · exact h _ _ out hs hb (fun b o e => PyProof.Rows.sortedAll_old e) (Nat.le_succ _) (PyProof.Rows.sortedAll_at s.heap vs out.toArray)
end

/-! ### the rule -/
def TriV (K : PySem.W.Frag) (H : Hp) (x : V) (t : Tri) : Prop := ∃ a ln, x = .ref a ∧ SqT K H a [.int t.1, .int t.2.1, ln] ∧ LnV K H ln t.2.2
abbrev TrisV (K : PySem.W.Frag) (H : Hp) (xs : List V) (ts : List Tri) : Prop := Paired (TriV K H) xs ts
theorem TriV.ts {K : PySem.W.Frag} {H H' : Hp} {x : V} {t : Tri} (h : TriV K H x t) (z : TS H H') : TriV K H' x t := let ⟨a, ln, e, s, l⟩ := h; ⟨a, ln, e, z.tup s, l.ts z⟩
theorem TrisV.ts {K : PySem.W.Frag} {H H' : Hp} {xs : List V} {ts : List Tri} (h : TrisV K H xs ts) (z : TS H H') : TrisV K H' xs ts := pmap (fun _ _ q => q.ts z) h
theorem ln_inj {l m : Ln} (h : l.vs = m.vs) : l = m := by
  have a1 : (Str.ofString "fixed") ≠ Str.ofString "entry" := by decide
  have a2 : (Str.ofString "fixed") ≠ Str.ofString "out" := by decide
  have a3 : (Str.ofString "entry") ≠ Str.ofString "out" := by decide
  cases l <;> cases m <;> simp only [Ln.vs, List.cons.injEq, and_true, V.str.injEq, V.int.injEq, Int.ofNat.injEq, reduceCtorEq, and_false, false_and, Int.natCast_inj] at h <;> first
    | exact absurd h.1 (by decide)
    | (obtain ⟨h1, h2⟩ := h; rw [h1, h2])
    | (obtain ⟨_, h1, h2⟩ := h; rw [h1, h2])
    | (obtain ⟨_, h1⟩ := h; rw [h1])
    | rw [h]
section
variable {X : Cx} {pins : List (Addr × Obj)} {σ : L2.St} {H : Hp} {s : Shared}
theorem tri_fun (I : Inv X pins σ H s) {x : V} {t u : Tri} (h1 : TriV X.K H x t) (h2 : TriV X.K H x u) : t = u := by
  obtain ⟨a, ln, rfl, s1, b, e1, l1⟩ := h1
  obtain ⟨a', ln', e, s2, b', e2, l2⟩ := h2
  cases e
  have q := I.tuple_inj s1 s2
  obtain ⟨t1, t2, t3⟩ := t
  obtain ⟨u1, u2, u3⟩ := u
  simp only [List.cons.injEq, V.int.injEq, and_true] at q
  obtain ⟨q1, q2, q3⟩ := q
  subst e1
  subst q3
  cases e2
  rw [show t1 = u1 from q1, show t2 = u2 from q2, show t3 = u3 from ln_inj (I.tuple_inj l1 l2)]
theorem tri_at (I : Inv X pins σ H s) {x : V} {t : Tri} {u : Value} (h : TriV X.K H x t) (r : RelV x u) : TriAt s.heap u t := by
  obtain ⟨a, ln, rfl, s1, b, e1, l1⟩ := h
  subst e1
  cases r
  obtain ⟨its, rv, ⟨o, ho, hc, n, hd⟩, _⟩ := I.tuple s1
  obtain ⟨its2, rv2, h2, _⟩ := I.tuple l1
  cases rv with
  | cons r1 rv =>
    cases rv with
    | cons r2 rv =>
      cases rv with
      | cons r3 rv =>
        cases rv
        obtain ⟨p, rfl⟩ := r1
        obtain ⟨q, rfl⟩ := r2
        obtain rfl : _ = Value.ref b := r3
        exact ⟨a, o, p, q, n, _, rfl, ho, hc, hd, b, its2, rfl, h2, rv2⟩
end
theorem p_fun {α β : Type} {R : α → β → Prop} (k : α → β) : ∀ {xs : List α} {ts : List β}, Paired R xs ts → (∀ x t, x ∈ xs → R x t → k x = t) → xs.map k = ts
  | [], _, h, _ => by cases h; rfl
  | x :: xs, _, h, q => by
    cases h with
    | cons h1 h2 => rw [List.map_cons, q x _ (List.mem_cons_self ..) h1, p_fun k h2 fun y t m => q y t (List.mem_cons_of_mem _ m)]
theorem p_map {α β : Type} {R : α → β → Prop} (k : α → β) : ∀ {xs : List α}, (∀ x ∈ xs, R x (k x)) → Paired R xs (xs.map k)
  | [], _ => .nil
  | x :: xs, q => .cons (q x (List.mem_cons_self ..)) (p_map k fun y m => q y (List.mem_cons_of_mem _ m))
/-- what is laid in front of the next -/
def triLe (x y : Tri) : Prop := x.1 < y.1 ∨ (x.1 = y.1 ∧ x.2.1 ≤ y.2.1)
theorem tri_le {x y : Tri} (h : triLt y x = false) : triLe x y := by
  obtain ⟨x1, x2, l⟩ := x
  obtain ⟨y1, y2, m⟩ := y
  unfold triLt triKey at h
  show x1 < y1 ∨ (x1 = y1 ∧ x2 ≤ y2)
  rcases (lex_false (O := itemOrd)).mp h with ⟨h1, h2⟩
  have a1 : decide (y1 < x1) = false := h1
  have a1' : ¬ y1 < x1 := of_decide_eq_false a1
  rcases h2 with h2 | h2
  · exact .inl (of_decide_eq_true (show decide (x1 < y1) = true from h2))
  · rcases (lex_false (O := itemOrd)).mp h2 with ⟨h3, _⟩
    have a3 : ¬ y2 < x2 := of_decide_eq_false (show decide (y2 < x2) = false from h3)
    omega
def rSortedTri (K : PySem.W.Frag) : List V → Hp → VK → Prop := fun vs H Q => ∃ (a : Addr) (xs : List V) (ts : List Tri), vs = [V.ref a] ∧ SqL K H a xs ∧ TrisV K H xs ts ∧
  ∀ ys us p, TrisV K H ys us → us.Perm ts → us.Pairwise triLe → H p = none → Q (.ref p) (upd H p (.lst ys))
theorem cr_sortedTri {X : Cx} (hu : X.A.units + 70 < cLine) : CallR X (.builtin "sorted") (rSortedTri X.K) := by
  intro pins s σ H vs us Q I r h
  obtain ⟨a, xs, ts, rfl, hs, hx, q⟩ := h
  obtain ⟨its, rv, hl, hz⟩ := I.list hs
  obtain ⟨u, rfl, ru⟩ := vals1 r
  obtain rfl : u = Value.ref a := ru
  obtain ⟨e1, e2⟩ := refs_back rv fun x m => by
    obtain ⟨i, ei⟩ := List.getElem?_of_mem m
    obtain ⟨t, _, b, ln, rfl, _⟩ := p_at hx ei
    exact ⟨b, rfl⟩
  have hc : ∀ x, ∃ t : Tri, (∃ t, TriV X.K H x t) → TriV X.K H x t := fun x => by
    by_cases e : ∃ t, TriV X.K H x t
    · exact ⟨e.choose, fun _ => e.choose_spec⟩
    · exact ⟨(0, 0, .fix1 0), fun z => absurd z e⟩
  let k : V → Tri := fun x => (hc x).choose
  have hk : ∀ x t, TriV X.K H x t → k x = t := fun x t h => tri_fun I ((hc x).choose_spec ⟨t, h⟩) h
  have hin : ∀ x ∈ xs, TriV X.K H x (k x) := fun x m => by
    obtain ⟨i, ei⟩ := List.getElem?_of_mem m
    obtain ⟨t, _, h⟩ := p_at hx ei
    exact (hc x).choose_spec ⟨t, h⟩
  refine sorted_tri (k := fun u => k (backV u)) hu hl.isList (by rw [← rv.length]; exact hz) (fun v hv => ?_) fun h' d out h1 h2 kp hd hn => ?_
  · obtain ⟨t, rfl⟩ := e2 v hv
    have hm : V.ref t ∈ xs := by rw [e1]; exact List.mem_map.mpr ⟨_, hv, rfl⟩
    exact tri_at I (hin _ hm) rfl
  · have h3 : ∀ u ∈ out, ∃ a, u = Value.ref a := fun u hu => e2 u (h2.perm.mem_iff.mp hu)
    obtain ⟨n, hn⟩ := hn
    have hb : (out.map backV).Perm xs := by
      rw [e1]
      exact h2.perm.map backV
    refine ⟨.ref d, upd H d (.lst (out.map backV)), I.laid (t' := s.toks) kp hd ⟨?_, out, n, vals_back h3, hn⟩, rfl, q _ ((out.map backV).map k) d (p_map k fun x m => hin x (hb.mem_iff.mp m)) ?_ ?_ (I.hok.fresh hd)⟩
    · rw [hb.length_eq]
      exact hz
    · rw [← p_fun k hx fun x t _ h => hk x t h]
      exact hb.map k
    · rw [List.map_map]
      exact List.pairwise_map.mpr (h1.imp fun h => tri_le h)
end Fld
/-! min of (int, (int, int)) -/
namespace Fld
open PySem PySem.Spec PyProof.Rows L2
abbrev P3 := Int × Int × Int
def le3 (p q : P3) : Prop := p.1 < q.1 ∨ (p.1 = q.1 ∧ (p.2.1 < q.2.1 ∨ (p.2.1 = q.2.1 ∧ p.2.2 ≤ q.2.2)))
theorem lt3 (a b : P3) : PySem.W.DatumOrd.lt a b = true ↔ ¬ le3 b a := by
  obtain ⟨a1, a2, a3⟩ := a
  obtain ⟨b1, b2, b3⟩ := b
  show (if a1 = b1 then (if a2 = b2 then decide (a3 < b3) else decide (a2 < b2)) else decide (a1 < b1)) = true ↔ ¬ (b1 < a1 ∨ (b1 = a1 ∧ (b2 < a2 ∨ (b2 = a2 ∧ b3 ≤ a3))))
  by_cases e1 : a1 = b1
  · rw [if_pos e1]
    by_cases e2 : a2 = b2
    · rw [if_pos e2, decide_eq_true_eq]; omega
    · rw [if_neg e2, decide_eq_true_eq]; omega
  · rw [if_neg e1, decide_eq_true_eq]; omega
theorem le3_refl (a : P3) : le3 a a := by unfold le3; omega
theorem le3_trans {a b c : P3} (h1 : le3 a b) (h2 : le3 b c) : le3 a c := by unfold le3 at *; omega
theorem le3_total (a b : P3) : le3 a b ∨ le3 b a := by unfold le3; omega
theorem min3 : ∀ (xs : List P3) (x : P3), PySem.W.minOf x xs ∈ x :: xs ∧ ∀ y ∈ x :: xs, le3 (PySem.W.minOf x xs) y
  | [], x => ⟨List.mem_singleton.mpr rfl, fun y m => by rw [List.mem_singleton.mp m]; exact le3_refl _⟩
  | z :: xs, x => by
    have e : PySem.W.minOf x (z :: xs) = PySem.W.minOf (if PySem.W.DatumOrd.lt z x = true then z else x) xs := rfl
    rw [e]
    by_cases q : PySem.W.DatumOrd.lt z x = true
    · rw [if_pos q]
      obtain ⟨h1, h2⟩ := min3 xs z
      have zx : le3 z x := (le3_total z x).resolve_right ((lt3 z x).mp q)
      refine ⟨List.mem_cons_of_mem _ h1, fun y m => ?_⟩
      rcases List.mem_cons.mp m with rfl | m
      · exact le3_trans (h2 z (List.mem_cons_self ..)) zx
      · exact h2 y m
    · rw [if_neg q]
      obtain ⟨h1, h2⟩ := min3 xs x
      have xz : le3 x z := Classical.byContradiction fun n => q ((lt3 z x).mpr n)
      refine ⟨?_, fun y m => ?_⟩
      · rcases List.mem_cons.mp h1 with h1 | h1
        · rw [h1]; exact List.mem_cons_self ..
        · exact List.mem_cons_of_mem _ (List.mem_cons_of_mem _ h1)
      · rcases List.mem_cons.mp m with rfl | m
        · exact h2 _ (List.mem_cons_self ..)
        · rcases List.mem_cons.mp m with rfl | m
          · exact le3_trans (h2 x (List.mem_cons_self ..)) xz
          · exact h2 y (List.mem_cons_of_mem _ m)
def PrI (K : PySem.W.Frag) (H : Hp) (x : V) (t : P3) : Prop := ∃ a b, x = .ref a ∧ SqT K H a [.int t.1, .ref b] ∧ SqT K H b [.int t.2.1, .int t.2.2]
theorem PrI.ts {K : PySem.W.Frag} {H H' : Hp} {x : V} {t : P3} (h : PrI K H x t) (z : TS H H') : PrI K H' x t := let ⟨a, b, e, s, l⟩ := h; ⟨a, b, e, z.tup s, z.tup l⟩
theorem PrI.dp {K : PySem.W.Frag} {H : Hp} {x : V} {t : P3} (h : PrI K H x t) : Dp K H x (PySem.W.Datum.toD t) := by
  obtain ⟨a, b, rfl, s1, s2⟩ := h
  exact .tup s1 (.cons (.int _) (.cons (.tup s2 (.cons (.int _) (.cons (.int _) .nil))) .nil))
theorem PrI.dps {K : PySem.W.Frag} {H : Hp} : ∀ {xs : List V} {ts : List P3}, Paired (PrI K H) xs ts → DpAll K H xs (ts.map PySem.W.Datum.toD)
  | _, _, .nil => .nil
  | _, _, .cons h t => .cons h.dp (PrI.dps t)
def rMinP (K : PySem.W.Frag) : List V → Hp → VK → Prop := fun vs H Q => ∃ (a : Addr) (xs : List V) (ts : List P3), vs = [V.ref a] ∧ SqL K H a xs ∧ Paired (PrI K H) xs ts ∧ ts ≠ [] ∧
  ∀ x t, PrI K H x t → t ∈ ts → (∀ u ∈ ts, le3 t u) → Q x H
theorem cr_minP {X : Cx} (hc : X.calm = true) (hu : X.A.units + 70 < cLine) : CallR X (.builtin "min") (rMinP X.K) := by
  intro pins s σ H vs us Q I r h
  obtain ⟨a, xs, ts, rfl, hs, hx, ne, q⟩ := h
  obtain ⟨its, rv, hl, hz⟩ := I.list hs
  obtain ⟨u, rfl, ru⟩ := vals1 r
  obtain rfl : u = Value.ref a := ru
  obtain ⟨as, rd⟩ := Dp.readsAll I _ _ its (PrI.dps hx) rv
  cases ts with
  | nil => exact absurd rfl ne
  | cons t0 ts =>
    refine PySem.W.min_list_datum (α := P3) (x := t0) (xs := ts) (I.ok.hd hc) hl.isList ⟨as, by simpa using rd⟩ (by show X.A.units + 1 + 2 < cLine; omega) fun i v h' tk hi hold hk => ?_
    have hi' : its[i]? = some v := by simpa using hi
    obtain ⟨x, ex, rx⟩ := p_at' rv hi'
    obtain ⟨t, et, ht⟩ := p_at hx ex
    obtain ⟨as1, r1⟩ := Dp.reads I _ _ _ ht.dp rx
    obtain ⟨as2, r2⟩ := hold
    have e := PySem.W.alike_unique _ _ _ _ _ (PySem.W.DatumOrd.alike (α := P3) t (PySem.W.minOf t0 ts)) (PyProof.Rows.Reads.keeps (fun b o e => hk b o e) r1) r2
    have e2 : t = PySem.W.minOf t0 ts := by
      have z := PySem.W.Datum.eqv (α := P3) t (PySem.W.minOf t0 ts)
      rw [e, PySem.W.Datum.eqv (α := P3), decide_eq_true rfl] at z
      exact of_decide_eq_true z.symm
    obtain ⟨m1, m2⟩ := min3 ts t0
    exact ⟨x, H, I.kept fun b o e => hk b o e, rx, q x t ht (by rw [e2]; exact m1) (by rw [e2]; exact m2)⟩
end Fld
namespace Fld
open PySem PySem.Spec PyProof.Rows L2
/-! ### enumerate(tuple) -/
def IteT (K : PySem.W.Frag) (a : Addr) : It :=
  ⟨fun i H => ∃ (xs : List V) (x : V), SqT K H a xs ∧ xs[i]? = some x, fun i H v H' => ∃ T x, v = .ref T ∧ H T = none ∧ H' = upd H T (.tup [.int (i : Nat), x]) ∧ ∀ xs, SqT K H a xs → xs[i]? = some x, fun i H => ∃ xs : List V, SqT K H a xs ∧ xs.length = i⟩
theorem turn_enumT {P : Program} {w : World} {K : PySem.W.Frag} {elts : List Expr} {kk : Nat} {tpos : Pos} (a e it : Addr) (hai : a ≠ it) (hae : a ≠ e) :
    Turn P w K (.Tuple elts kk tpos) (IteT K a) [e, it] e (fun i h => (∃ old, IsEnum h e it ((i : Nat) : Int) old) ∧ h.IsTupleIter it a i ∧ e ≠ it) where
  mem := by simp
  obj := fun i h st b hb => by
    obtain ⟨⟨old, he⟩, ⟨o, ho, hc, hd⟩, _⟩ := st
    have e' : b = e ∨ b = it := by simpa using hb
    rcases e' with z | z
    · rw [z]; exact ⟨_, he, fun v q => nomatch q⟩
    · rw [z]; exact ⟨o, ho, fun v q => by rw [hd] at q; cases q⟩
  keep := fun i h h' st k => let ⟨⟨old, he⟩, hi, hne⟩ := st; ⟨⟨old, k e (by simp) _ he⟩, hi.at fun o q => k it (by simp) o q, hne⟩
  item := by
    intro X hP hw hK hc i pins s σ H E I hf st hg
    subst hP hw hK
    obtain ⟨⟨old, he⟩, hit, hne⟩ := st
    obtain ⟨xs, x, hq, hx⟩ := hg
    obtain ⟨its, rv, p, hz⟩ := I.tuple hq
    obtain ⟨u, hu, ru⟩ := rv.get hx
    have hel : e < s.heap.objs.size := Heap.lt_size he
    have hil : it < s.heap.objs.size := by obtain ⟨_, q, _⟩ := hit; exact Heap.lt_size q
    have D := Draws.tuple (prog := X.prog) (w := X.w) (A := X.A.in1) (I.ok.hd hc) it a hai its.toArray
    have hlt : i < its.toArray.size := by
      have := (List.getElem?_eq_some_iff.mp hu).1
      simpa using this
    have p' : s.heap.IsTuple a its.toArray := p
    refine wpAny_pyNext_enum_itemC D he ⟨hit, p'⟩ hlt hne (by simp [hne, Ne.symm hae]) fun u' h' tk hP ho hit' hT hsz hk => ?_
    have eu : u' = u := by
      have h1 : its[i]? = some u' := by simpa using hP
      rw [hu] at h1; exact (Option.some.inj h1).symm
    subst eu
    refine ⟨_, rfl, wpAny_letOwnedTupleGo_enum (s := { s with heap := h', toks := tk + 1 }) ho fun h'' he' sb => ?_⟩
    have hT2 : h''.get? s.heap.objs.size = some { cls := .type "tuple", data := .seq #[.int i tk, u'] } := (sb.2 _ (Nat.ne_of_gt hel)).trans hT
    have new : ObjOk X.prog X.w (upd H s.heap.objs.size (.tup [.int (i : Nat), x])) h'' s.heap.objs.size (.tup [.int (i : Nat), x]) :=
      ⟨by show 2 ≤ sizeLine; decide, [.int i tk, u'], .cons ⟨_, rfl⟩ (.cons ru .nil), ⟨_, hT2, rfl, _, rfl⟩⟩
    have I1 : Inv X pins σ (upd H s.heap.objs.size (.tup [.int (i : Nat), x])) { s with heap := h'', toks := tk + 1 } :=
      I.turnedNew (ch := [e, it]) (fun b ob hb q => (sb.2 b (fun z => hb (by simp [z]))).trans (hk b ob (fun z => hb (by simp [z])) (fun z => hb (by simp [z])) q)) hf (Nat.le_refl _) new
    refine ⟨.ref s.heap.objs.size, _, I1, rfl, ⟨_, x, rfl, I.hok.fresh (Nat.le_refl _), rfl, fun ys hy => by rw [I.tuple_inj hy hq]; exact hx⟩, ⟨⟨u', ?_⟩, hit'.1.at fun o q => (sb.2 it (Ne.symm hne)).trans q, hne⟩, fun b hb => ?_⟩
    · have e1 : ((i + 1 : Nat) : Int) = (i : Int) + 1 := by omega
      rw [e1]; exact he'
    · have hb' : b < s.heap.objs.size := by
        have e' : b = e ∨ b = it := by simpa using hb
        rcases e' with z | z
        · rw [z]; exact hel
        · rw [z]; exact hil
      rw [upd_ne (Nat.ne_of_lt hb')]
      exact (hf b hb).1
  done := by
    intro X hP hw hK hc i pins s σ H E I hf st hg
    subst hP hw hK
    obtain ⟨⟨old, he⟩, hit, hne⟩ := st
    obtain ⟨xs, hq, hx⟩ := hg
    obtain ⟨its, rv, p, hz⟩ := I.tuple hq
    obtain ⟨f0, f1, f2, f3, f4, f5⟩ := hf it (by simp)
    have hl := rv.length
    have D := Draws.tuple (prog := X.prog) (w := X.w) (A := X.A.in1) (I.ok.hd hc) it a hai its.toArray
    have p' : s.heap.IsTuple a its.toArray := p
    have en : its.toArray.size = i := by rw [List.size_toArray, ← hl]; exact hx
    rw [← en] at hit
    exact wpAny_pyNext_enum_endD D he ⟨hit, p'⟩ fun h' eb => ⟨rfl, I.turned (t' := s.toks) (fun b o hb q => eb b o hb q) f0 f1 f3 f4 f5⟩
  self := fun A i s Q E st h => let ⟨⟨_, he⟩, _⟩ := st; wpAny_pyIter_enum he h
def iEnumT (K : PySem.W.Frag) (ta : TA) : TI := fun σ H R => ta σ H fun vs H1 => ∃ a xs, vs = [.ref a] ∧ SqT K H1 a xs ∧ R (IteT K a) H1
theorem pi_enumT {X : Cx} {e : Expr} {ta : TA} {p pos tpos : Pos} {elts : List Expr} {kk : Nat} (hg : Gl X "enumerate") (hm : X.mg "enumerate" = none) (ha : PA X [e] ta) (hs : starEach [e] X.env = [(false, eval e X.env)] := by rfl) :
    PI X (.Tuple elts kk tpos) (.Call (.Name "enumerate" p) [e] [] pos) (iEnumT X.K ta) := by
  refine ⟨fun pins s σ H R I h => ?_⟩
  refine Call_ (ld_blt I hg hm boot_enumerate (PyProof.Rows.callWith_type1 (thn (ha.run pos pins s σ H _ I h) fun us s1 ⟨vs, H1, I1, r1, q1⟩ => ?_) hs rfl))
  obtain ⟨a, xs, ex, hq, q⟩ := q1
  subst ex
  cases r1 with
  | cons r rr =>
    cases rr
    cases r
    obtain ⟨its, rv, p', hz⟩ := I1.tuple hq
    have hp : s1.heap.IsTuple a its.toArray := p'
    have hal : a < s1.heap.objs.size := by obtain ⟨_, z, _⟩ := hp; exact Heap.lt_size z
    refine call_enumerate_B (begins_tuple a its.toArray) hp fun h' he hit hsz hk => wpAny_pyIter_enum he ?_
    have I2 : Inv X pins σ H1 { s1 with heap := h' } := I1.kept (t' := s1.toks) hk
    refine ⟨s1.heap.objs.size + 1, [s1.heap.objs.size + 1, s1.heap.objs.size], _, _, H1, rfl, I2, turn_enumT a (s1.heap.objs.size + 1) s1.heap.objs.size (Nat.ne_of_lt hal) (Nat.ne_of_lt (Nat.lt_succ_of_lt hal)), ⟨⟨.none, he⟩, ⟨_, hit, rfl, rfl⟩, Nat.succ_ne_self _⟩, fun b hb => ?_, q⟩
    have e' : b = s1.heap.objs.size + 1 ∨ b = s1.heap.objs.size := by simpa using hb
    have hle : s1.heap.objs.size ≤ b := by
      rcases e' with z | z
      · rw [z]; exact Nat.le_add_right _ _
      · rw [z]; exact Nat.le_refl _
    exact I1.fpOk hle (I1.hok.fresh hle)
theorem walk_enumT {K : PySem.W.Frag} {a : Addr} {xs : List V} : Walk (IteT K a) xs.length (fun H => SqT K H a xs) (YPair (fun i => some (.int (i : Nat))) (fun i => xs[i]?)) := by
  refine ⟨fun i _ hi q => ⟨xs, xs[i], q, by simp [hi]⟩, fun _ q => ⟨xs, q, rfl⟩, fun i H v H' _ q y => ?_⟩
  obtain ⟨T, x, h1, h2, h3, h4⟩ := y
  exact ⟨T, .int (i : Nat), x, h1, h2, h3, rfl, h4 xs q⟩
end Fld
/-! what the draws of logs promise -/
namespace Fld
open PySem PySem.Spec PyProof.Rows L2
section
variable {K : PySem.W.Frag} {p c l : Addr} {n : Nat} {H : Hp} {Q : VK} {xs : List V}
theorem pick_new (hp : Pen H p c n) (hl : H l = none) (ne : xs ≠ []) (hz : xs.length ≤ 1000) (hn : n ≤ 900000) (q : ∀ x H', x ∈ xs → Drew p c H H' (n + 1) → Q x H') : sp_law_one_of K [.ref p, .ref l] (upd H l (.lst xs)) Q E0 :=
  ⟨p, c, l, n, xs, rfl, hp.new hl, SqL.of upd_same, Ne.symm (hp.ne hl), ne, hz, hn, fun x H' hx d => q x H' hx ⟨d.pen, (But.new hl).trans d.but⟩⟩
theorem take_n {R : Int → Hp → Prop} (k : Nat) (hp : Pen H p c n) (h0 : 0 < k) (h1 : k < 1073741824) (hn : n ≤ 900000) (q : ∀ (r : Nat) H', r < k → Drew p c H H' (n + 1) → R ((r : Nat) : Int) H') :
    ∃ (p' c' : Addr) (n' : Nat) (k' : Int), [V.ref p, V.int (k : Nat)] = [V.ref p', V.int k'] ∧ Pen H p' c' n' ∧ 0 < k' ∧ k' < 1073741824 ∧ n' ≤ 900000 ∧ ∀ (r : Int) H', 0 ≤ r → r < k' → Drew p' c' H H' (n' + 1) → R r H' :=
  ⟨p, c, n, k, rfl, hp, by omega, by omega, hn, fun r H' a b d => by
    obtain ⟨r', rfl⟩ : ∃ k' : Nat, r = (k' : Int) := ⟨r.toNat, by omega⟩
    exact q r' H' (by omega) d⟩
end
theorem runT_made {F : List Fd} {r : Nat} : ∀ {is : List Ins} {t u : Tb} {k : Nat}, runT F r t k is = .ok u → u.made ≤ t.made + is.length
  | [], t, u, k, e => by
    rw [runT] at e; cases e; exact Nat.le_refl _
  | i :: is, t, u, k, e => by
    rw [runT] at e
    cases hs : stepT F r t i with
    | none => rw [hs] at e; cases e
    | some t' =>
      rw [hs] at e
      have h1 := runT_made (is := is) e
      have h2 := step_made hs
      rw [List.length_cons]; omega
theorem stO_ok {F : List Fd} {r : Nat} (hr : r ≤ 120) (hF : ∀ f ∈ F, FdOk f) {is : List Ins} (hi : ∀ i ∈ is, i.Ok) {t : Tb} (h : stO F r is = some t) : TbOk r t ∧ t.made ≤ is.length := by
  have e := stO_run h
  refine ⟨runT_ok hF (tb0_ok hr) hi e, ?_⟩
  have := runT_made e
  have z : (tb0 r).made = 0 := rfl
  omega
def sp_u_setting (K : PySem.W.Frag) : Sp := fun vs H Q _ => ∃ (p c : Addr) (n : Nat), vs = [.ref p] ∧ Pen H p c n ∧ n ≤ 600000 ∧
  ∀ (a t : Addr) (xs : List V) F r w H', SqT K H' a [.ref t, .int (r : Nat), .int (w : Nat)] → SqT K H' t xs → FdsV K H' xs F → SetOk F r w → r ≤ 40 → F.length ≤ 3 → Drew p c H H' (n + 3) → Q (.ref a) H'
def sp_u_behind (K : PySem.W.Frag) : Sp := fun vs H Q _ => ∃ (sv : V) (L : Addr) (F : List Fd) (r w : Nat) (xs : List V) (is : List Ins), vs = [sv, .ref L] ∧ SetV K H sv F r w ∧ SetOk F r w ∧ SqL K H L xs ∧ InssV K H xs is ∧ (∀ i ∈ is, i.Ok) ∧ is.length ≤ 1000 ∧
  (∀ t, stO F r is = some t → ∀ D q H', H D = none → H q = none → Same H H' → H' q = some (.tup [.int (t.made : Nat), .ref D]) → EntV K H' D t.es → Q (.ref q) H') ∧ (stO F r is = none → ∀ H', Same H H' → Q .non H')
def sp_u_ins (K : PySem.W.Frag) : Sp := fun vs H Q _ => ∃ (p c D : Addr) (n : Nat) (sv : V) (F : List Fd) (r w : Nat) (t : Tb), vs = [.ref p, sv, .int (t.made : Nat), .ref D] ∧ Pen H p c n ∧ n ≤ 600000 ∧ SetV K H sv F r w ∧ SetOk F r w ∧ EntV K H D t.es ∧ TbOk r t ∧ t.made ≤ 9000 ∧
  ∀ v i H', InsV K H' v i → i.Ok → Drew p c H H' (n + 10) → Q v H'
theorem name_of {x : V} (h : x ∈ [V.str "a", .str "b", .str "cc"]) : ∃ z : Str, x = .str z ∧ txt (.str z) 1 20 = true := by
  simp only [List.mem_cons, List.not_mem_nil, or_false] at h
  rcases h with h | h | h
  · exact ⟨"a", h, by decide +kernel⟩
  · exact ⟨"b", h, by decide +kernel⟩
  · exact ⟨"cc", h, by decide +kernel⟩
theorem value_of {x : V} (h : x ∈ [V.str "", .str "x", .str "yy", .str "x"]) : ∃ z : Str, x = .str z ∧ txt (.str z) 0 40 = true := by
  simp only [List.mem_cons, List.not_mem_nil, or_false] at h
  rcases h with h | h | h | h
  · exact ⟨"", h, by decide +kernel⟩
  · exact ⟨"x", h, by decide +kernel⟩
  · exact ⟨"yy", h, by decide +kernel⟩
  · exact ⟨"x", h, by decide +kernel⟩
theorem Drew.then {p c : Addr} {H H1 H2 : Hp} {n m : Nat} (a : But p H H1) (b : Drew p c H1 H2 m) : Drew p c H H2 m := ⟨b.pen, a.trans b.but⟩
end Fld
namespace Fld
open PySem PySem.Spec PyProof.Rows L2
def natV (ks : List Nat) : List V := ks.map fun (k : Nat) => V.int (k : Nat)
def natD (ks : List Nat) : List PyData := ks.map fun (k : Nat) => PyData.int (k : Nat)
theorem natV_len (ks : List Nat) : (natV ks).length = ks.length := List.length_map ..
theorem dp_nats {K : PySem.W.Frag} {H : Hp} : ∀ ks : List Nat, DpAll K H (natV ks) (natD ks)
  | [] => .nil
  | n :: r => .cons (.int _) (dp_nats r)
theorem nats_shaped (ks : List Nat) : SeqAt.shaped (.list (natD ks)) = true := by
  have h : ∀ ks : List Nat, PyData.canLayAll0 (natD ks) = true ∧ PyData.depthAll (natD ks) ≤ 0 := by
    intro ks
    induction ks with
    | nil => exact ⟨by rw [natD, List.map_nil, PyData.canLayAll0], by rw [natD, List.map_nil, PyData.depthAll]; omega⟩
    | cons k r ih =>
      refine ⟨?_, ?_⟩
      · show PyData.canLayAll0 (.int (k : Nat) :: natD r) = true
        rw [PyData.canLayAll0, PyData.canLay0, ih.1]; rfl
      · show PyData.depthAll (.int (k : Nat) :: natD r) ≤ 0
        rw [PyData.depthAll, PyData.depth]; have := ih.2; omega
  have h1 := h ks
  show (PyData.canLay0 (.list (natD ks)) && decide (PyData.depth (.list (natD ks)) ≤ 64)) = true
  rw [PyData.canLay0, h1.1, PyData.depth, decide_eq_true (by have := h1.2; omega)]
  rfl
def lnReq : Ln → Nat
  | .ent1 n => n + 1
  | .ent2 n _ => n + 1
  | _ => 0
theorem ln_okreq {l : Ln} {r R : Nat} (h : l.Ok R) (hr : lnReq l ≤ r) : l.Ok r := by
  cases l with
  | fix1 n => exact h
  | fix2 n x => exact h
  | ent1 n => have hr' : n + 1 ≤ r := hr; show n < r; omega
  | ent2 n x => have hr' : n + 1 ≤ r := hr; exact ⟨by show n < r; omega, h.2⟩
  | out y x => exact h
def sp_u_block (K : PySem.W.Frag) : Sp := fun vs H Q _ => ∃ (p c e : Addr) (n cnt : Nat) (sv : V) (ks : List Nat), vs = [.ref p, sv, .ref e, .int (cnt : Nat)] ∧ Pen H p c n ∧ n ≤ 600000 ∧ SqL K H e (natV ks) ∧ e ≠ p ∧ (∀ k ∈ ks, k ≤ 9000) ∧ ks.length ≤ 1000 ∧ cnt ≤ 9000 ∧
  ∀ v b H', BlkV K H' v b → b.Ok → b.ls.length ≤ 3 → Drew p c H H' (n + 30) → Q v H'
theorem value_of3 {x : V} (h : x ∈ [V.str "", .str "x", .str "yy"]) : ∃ z : Str, x = .str z ∧ txt (.str z) 0 40 = true := by
  simp only [List.mem_cons, List.not_mem_nil, or_false] at h
  rcases h with h | h | h
  · exact ⟨"", h, by decide +kernel⟩
  · exact ⟨"x", h, by decide +kernel⟩
  · exact ⟨"yy", h, by decide +kernel⟩
end Fld
/-! The shortest block: lines for a field, the best of them. -/
namespace Fld
open PySem PySem.Spec PyProof.Rows L2
section
variable {J : It} {n : Nat} {G : Hp → Prop} {Y : Nat → Hp → V → Hp → Prop} {g : TG} {tt : TT} {te : TE} {vs : List Nat} {σ : L2.St} {H1 : Hp} {D : Addr} {Qd : Hp → Prop}
/-- each item's value stands for a thing, all that stood stands -/
theorem lc_rel {α : Type} {R : V → α → Hp → Prop} (mono : ∀ v a H H', TS H H' → R v a H → R v a H') (as : List α) (w : Walk J n G Y) (hn : n = as.length) (hz : as.length ≤ 10000000) (hD : H1 D = none) (hG : ∀ H, Same H1 H → G H)
    (hs : ∀ i x a H' H'' (Q' : VK) (Z : Hp → Prop), as[i]? = some a → Same H1 H' → H' D ≠ none → Y i H' x H'' → (∀ y H4, Same H' H4 → R y a H4 → Q' y H4) →
      g x (wipe σ vs) H'' fun σ2 H2 => wipe σ2 vs = wipe σ vs ∧ tYes σ2 H2 fun b H3 => if b = true then te σ2 H3 Q' else Z H3)
    (hd : ∀ ys H', Same H1 H' → H' D = some (.lst ys) → Paired (fun v a => R v a H') ys as → Qd H') :
    ∃ W : Nat → Nat → Hp → Prop, (∃ m, W 0 m (upd H1 D (.lst []))) ∧ ∀ i m H, W i m H →
      (J.stop i H ∧ Qd H) ∨ (J.go i H ∧ ∃ Nx : Hp → Prop, (∀ H', Nx H' → ∃ m', m' < m ∧ W (i + 1) m' H') ∧ ∀ x H', J.yld i H x H' → g x (wipe σ vs) H' fun σ2 H2 => wipe σ2 vs = wipe σ vs ∧ tYes σ2 H2 fun b H3 =>
        if b = true then te σ2 H3 fun y H4 => ∃ acc, H4 D = some (.lst acc) ∧ acc.length < sizeLine ∧ Nx (upd H4 D (.lst (acc ++ [y]))) else Nx H3) := by
  subst hn
  have up : ∀ H o, Same H1 H → Same H1 (upd H D o) := fun H o s b u e => by rw [upd_ne (ne_of_none e hD)]; exact s b u e
  refine lc_gen w (fun i ys H => Same H1 H ∧ Paired (fun v a => R v a H) ys (as.take i)) hz ⟨up _ _ (Same.refl _), .nil⟩ (fun i ys H h => hG H h.1) ?_ ?_
  · rintro i ys x H H' Q' Z hi hl hDl ⟨s, p⟩ y q
    refine hs i x as[i] H H' Q' Z (List.getElem?_eq_getElem hi) s (by rw [hDl]; exact (fun z => nomatch z)) y fun v H4 s4 r4 => ?_
    have g4 := s4 D _ hDl
    have t4 : TS H4 (upd H4 D (.lst (ys ++ [v]))) := TS.at g4 nt_lst
    refine q v H4 g4 ⟨up _ _ (s.trans s4), ?_⟩
    rw [List.take_add_one, List.getElem?_eq_getElem hi]
    exact p_app (pmap (fun _ _ z => mono _ _ _ _ t4 (mono _ _ _ _ (.of s4) z)) p) (.cons (mono _ _ _ _ t4 r4) .nil)
  · rintro ys H hl hDl ⟨s, p⟩
    rw [List.take_length] at p
    exact hd ys H s hDl p
/-- the same with a test -/
theorem lc_relF {α : Type} {R : V → α → Hp → Prop} (c : α → Bool) (mono : ∀ v a H H', TS H H' → R v a H → R v a H') (as : List α) (w : Walk J n G Y) (hn : n = as.length) (hz : as.length ≤ 10000000) (hD : H1 D = none) (hG : ∀ H, Same H1 H → G H)
    (hs : ∀ i x a H' H'' (Q' : VK) (Z : Hp → Prop), as[i]? = some a → Same H1 H' → H' D ≠ none → Y i H' x H'' → (c a = true → ∀ y H4, Same H' H4 → R y a H4 → Q' y H4) → (c a = false → ∀ H4, Same H' H4 → Z H4) →
      g x (wipe σ vs) H'' fun σ2 H2 => wipe σ2 vs = wipe σ vs ∧ tt σ2 H2 fun b H3 => if b = true then te σ2 H3 Q' else Z H3)
    (hd : ∀ ys H', Same H1 H' → H' D = some (.lst ys) → Paired (fun v a => R v a H') ys (as.filter c) → Qd H') :
    ∃ W : Nat → Nat → Hp → Prop, (∃ m, W 0 m (upd H1 D (.lst []))) ∧ ∀ i m H, W i m H →
      (J.stop i H ∧ Qd H) ∨ (J.go i H ∧ ∃ Nx : Hp → Prop, (∀ H', Nx H' → ∃ m', m' < m ∧ W (i + 1) m' H') ∧ ∀ x H', J.yld i H x H' → g x (wipe σ vs) H' fun σ2 H2 => wipe σ2 vs = wipe σ vs ∧ tt σ2 H2 fun b H3 =>
        if b = true then te σ2 H3 fun y H4 => ∃ acc, H4 D = some (.lst acc) ∧ acc.length < sizeLine ∧ Nx (upd H4 D (.lst (acc ++ [y]))) else Nx H3) := by
  subst hn
  have up : ∀ H o, Same H1 H → Same H1 (upd H D o) := fun H o s b u e => by rw [upd_ne (ne_of_none e hD)]; exact s b u e
  refine lc_genF w (fun i ys H => Same H1 H ∧ H D ≠ none ∧ Paired (fun v a => R v a H) ys ((as.take i).filter c)) hz ⟨up _ _ (Same.refl _), by rw [upd_same]; exact (fun z => nomatch z), .nil⟩ (fun i ys H h => hG H h.1) ?_ ?_
  · rintro i ys x H H' Q' Z hi hl hDl ⟨s, n0, p⟩ y q z
    have et : as.take (i + 1) = as.take i ++ [as[i]] := by rw [List.take_add_one, List.getElem?_eq_getElem hi]; rfl
    refine hs i x as[i] H H' Q' Z (List.getElem?_eq_getElem hi) s n0 y (fun hc v H4 s4 r4 => ?_) (fun hc H4 s4 => ?_)
    · have g4 := s4 D _ hDl
      have t4 : TS H4 (upd H4 D (.lst (ys ++ [v]))) := TS.at g4 nt_lst
      refine q v H4 g4 ⟨up _ _ (s.trans s4), by rw [upd_same]; exact (fun z => nomatch z), ?_⟩
      rw [et, List.filter_append, List.filter_cons_of_pos hc, List.filter_nil]
      exact p_app (pmap (fun _ _ z => mono _ _ _ _ t4 (mono _ _ _ _ (.of s4) z)) p) (.cons (mono _ _ _ _ t4 r4) .nil)
    · refine z H4 (s4 D _ hDl) ⟨s.trans s4, by rw [s4 D _ hDl]; exact (fun z => nomatch z), ?_⟩
      rw [et, List.filter_append, List.filter_cons_of_neg (by rw [hc]; exact (fun z => nomatch z)), List.filter_nil, List.append_nil]
      exact pmap (fun _ _ z => mono _ _ _ _ (.of s4) z) p
  · rintro ys H hl hDl ⟨s, _, p⟩
    rw [List.take_length] at p
    exact hd ys H s hDl p
end
/-! ### what a line can refer to -/
structure Rf where
  req : Nat
  ent : Bool
  n : Nat
  o : Fd
def Rf.word (r : Rf) : Str := if r.ent = true then "entry" else "fixed"
def Rf.ln (f : Fd) (r : Rf) : Option Ln :=
  if r.o = f then some (if r.ent = true then .ent1 r.n else .fix1 r.n) else if r.o.1 = f.1 then some (if r.ent = true then .ent2 r.n f.2 else .fix2 r.n f.2) else none
def fixR (F : List Fd) : List Rf := F.zipIdx.map fun p => ⟨0, false, p.2, p.1⟩
def entR (es : Ent) : List Rf := es.map fun e => ⟨e.1 + 1, true, e.1, e.2⟩
def refs (F : List Fd) (es : Ent) : List Rf := fixR F ++ entR es
def linesL (F : List Fd) (es : Ent) (f : Fd) : List Ln := .out f.1 f.2 :: (refs F es).filterMap (Rf.ln f)
def tri (base : Nat) (l : Ln) : Tri := ((lnReq l : Nat), ((l.oct base).length : Nat), l)
def RfV (K : PySem.W.Frag) (H : Hp) (v : V) (r : Rf) : Prop := ∃ a fv, v = .ref a ∧ SqT K H a [.int (r.req : Nat), .str r.word, .int (r.n : Nat), fv] ∧ FdV K H fv r.o
theorem RfV.ts {K : PySem.W.Frag} {H H' : Hp} {v : V} {r : Rf} (h : RfV K H v r) (t : TS H H') : RfV K H' v r := let ⟨a, fv, e, s, f⟩ := h; ⟨a, fv, e, t.tup s, f.ts t⟩
structure ShOk (F : List Fd) (es : Ent) : Prop where
  fl : F.length ≤ 40
  ff : ∀ f ∈ F, FdOk f
  el : es.length < 64
  key : ∀ e ∈ es, e.1 ≤ 9998
  ef : ∀ e ∈ es, FdOk e.2
  nd : (es.map (·.1)).Nodup
structure RfOk (r : Rf) : Prop where
  n9 : r.n ≤ 9999
  ok : FdOk r.o
theorem refs_ok {F : List Fd} {es : Ent} (h : ShOk F es) : ∀ r ∈ refs F es, RfOk r := by
  intro r m
  rcases List.mem_append.mp m with m | m
  · obtain ⟨p, hp, rfl⟩ := List.mem_map.mp m
    have h1 := List.mem_zipIdx' hp
    have := h.fl
    exact ⟨by show p.2 ≤ 9999; have := h1.1; omega, h.ff _ (by rw [h1.2]; exact List.getElem_mem _)⟩
  · obtain ⟨e, he, rfl⟩ := List.mem_map.mp m
    exact ⟨by show e.1 ≤ 9999; have := h.key e he; omega, h.ef e he⟩
theorem refs_len {F : List Fd} {es : Ent} (h : ShOk F es) : (refs F es).length ≤ 103 := by
  have h1 := h.fl
  have h2 := h.el
  unfold refs fixR entR
  rw [List.length_append, List.length_map, List.length_map, List.length_zipIdx]
  omega
theorem lines_len {F : List Fd} {es : Ent} (h : ShOk F es) (f : Fd) : (linesL F es f).length ≤ 104 := by
  have h1 := refs_len h
  have h2 := List.length_filterMap_le (Rf.ln f) (refs F es)
  show ((refs F es).filterMap (Rf.ln f)).length + 1 ≤ 104
  omega
/-- each line says the field -/
theorem line_said {F : List Fd} {es : Ent} {f : Fd} (nd : (es.map (·.1)).Nodup) : ∀ l ∈ linesL F es f, said1 F es l = some f := by
  intro l m
  rcases List.mem_cons.mp m with rfl | m
  · rfl
  obtain ⟨r, hr, hl⟩ := List.mem_filterMap.mp m
  have hw : (r.ent = false ∧ F[r.n]? = some r.o) ∨ (r.ent = true ∧ lookE es r.n = some r.o) := by
    rcases List.mem_append.mp hr with m | m
    · obtain ⟨p, hp, rfl⟩ := List.mem_map.mp m
      have h1 := List.mem_zipIdx' hp
      exact .inl ⟨rfl, by show F[p.2]? = some p.1; rw [List.getElem?_eq_getElem h1.1]; exact congrArg some h1.2.symm⟩
    · obtain ⟨e, he, rfl⟩ := List.mem_map.mp m
      exact .inr ⟨rfl, (look_some_iff nd).mpr he⟩
  obtain ⟨rq, en, n, o⟩ := r
  unfold Rf.ln at hl
  dsimp only at hl hw
  by_cases e1 : o = f
  · rw [if_pos e1] at hl
    subst e1
    rcases hw with ⟨rfl, hw⟩ | ⟨rfl, hw⟩
    · cases hl; exact hw
    · cases hl; exact hw
  · rw [if_neg e1] at hl
    by_cases e2 : o.1 = f.1
    · rw [if_pos e2] at hl
      rcases hw with ⟨rfl, hw⟩ | ⟨rfl, hw⟩
      · cases hl
        show (F[n]?).map (fun g => (g.1, f.2)) = some f
        rw [hw]
        show some (o.1, f.2) = some f
        rw [e2]
      · cases hl
        show (lookE es n).map (fun g => (g.1, f.2)) = some f
        rw [hw]
        show some (o.1, f.2) = some f
        rw [e2]
    · rw [if_neg e2] at hl; cases hl
theorem line_ok {F : List Fd} {es : Ent} {f : Fd} (h : ShOk F es) (hf : FdOk f) {R : Nat} : ∀ l ∈ linesL F es f, lnReq l ≤ R → l.Ok R := by
  intro l m hl
  rcases List.mem_cons.mp m with rfl | m
  · exact ⟨hf.n, hf.v⟩
  obtain ⟨r, hr, e⟩ := List.mem_filterMap.mp m
  have ok := refs_ok h r hr
  obtain ⟨rq, en, n, o⟩ := r
  have n9 : n ≤ 9999 := ok.n9
  unfold Rf.ln at e
  dsimp only at e
  by_cases e1 : o = f
  · rw [if_pos e1] at e
    cases en
    · cases e; exact n9
    · cases e
      have : n + 1 ≤ R := hl
      show n < R
      omega
  · rw [if_neg e1] at e
    by_cases e2 : o.1 = f.1
    · rw [if_pos e2] at e
      cases en
      · cases e; exact ⟨n9, hf.v⟩
      · cases e
        have : n + 1 ≤ R := hl
        exact ⟨by show n < R; omega, hf.v⟩
    · rw [if_neg e2] at e; cases e
/-! ### the best -/
def keepS (ks : List Tri) (c : Tri) : List Tri := match ks.getLast? with
  | none => ks ++ [c]
  | some k => if c.2.1 < k.2.1 then ks ++ [c] else ks
structure Best (cs ks : List Tri) : Prop where
  sub : ∀ k ∈ ks, k ∈ cs
  cov : ∀ c ∈ cs, ∃ k ∈ ks, k.1 ≤ c.1 ∧ k.2.1 ≤ c.2.1
  ord : ks.Pairwise fun x y => x.1 ≤ y.1 ∧ y.2.1 < x.2.1
theorem pw_last {ks : List Tri} {k : Tri} (h : ks.Pairwise fun x y => x.1 ≤ y.1 ∧ y.2.1 < x.2.1) (e : ks.getLast? = some k) : ∀ x ∈ ks, x.1 ≤ k.1 ∧ k.2.1 ≤ x.2.1 := by
  obtain ⟨ys, rfl⟩ := List.getLast?_eq_some_iff.mp e
  intro x m
  rcases List.mem_append.mp m with m | m
  · have := (List.pairwise_append.mp h).2.2 x m k (List.mem_singleton.mpr rfl)
    omega
  · rw [List.mem_singleton.mp m]; omega
theorem Best.step {cs ks : List Tri} {c : Tri} (h : Best cs ks) (hc : ∀ x ∈ cs, x.1 ≤ c.1) : Best (cs ++ [c]) (keepS ks c) := by
  unfold keepS
  have add : (∀ k ∈ ks, k.1 ≤ c.1 ∧ c.2.1 < k.2.1) → Best (cs ++ [c]) (ks ++ [c]) := fun hk => by
    refine ⟨fun k m => ?_, fun x m => ?_, ?_⟩
    · rcases List.mem_append.mp m with m | m
      · exact List.mem_append_left _ (h.sub k m)
      · exact List.mem_append_right _ m
    · rcases List.mem_append.mp m with m | m
      · obtain ⟨k, hk1, hk2⟩ := h.cov x m
        exact ⟨k, List.mem_append_left _ hk1, hk2⟩
      · exact ⟨c, List.mem_append_right _ (List.mem_singleton.mpr rfl), by rw [List.mem_singleton.mp m]; omega⟩
    · refine List.pairwise_append.mpr ⟨h.ord, List.pairwise_singleton _ _, fun x hx y hy => ?_⟩
      rw [List.mem_singleton.mp hy]
      exact hk x hx
  cases e : ks.getLast? with
  | none =>
    have : ks = [] := List.getLast?_eq_none_iff.mp e
    exact add (by rw [this]; intro k m; cases m)
  | some k =>
    have hl := pw_last h.ord e
    have hm : k ∈ ks := List.mem_of_getLast? e
    show Best (cs ++ [c]) (if c.2.1 < k.2.1 then ks ++ [c] else ks)
    by_cases q : c.2.1 < k.2.1
    · rw [if_pos q]
      refine add fun x hx => ⟨hc x (h.sub x hx), ?_⟩
      have := (hl x hx).2
      omega
    · rw [if_neg q]
      refine ⟨fun x m => List.mem_append_left _ (h.sub x m), fun x m => ?_, h.ord⟩
      rcases List.mem_append.mp m with m | m
      · exact h.cov x m
      · rw [List.mem_singleton.mp m]
        exact ⟨k, hm, hc k (h.sub k hm), by omega⟩
theorem best_fold : ∀ (us : List Tri) (cs ks : List Tri), Best cs ks → (cs ++ us).Pairwise triLe → Best (cs ++ us) (us.foldl keepS ks)
  | [], cs, ks, h, _ => by rw [List.append_nil]; exact h
  | c :: us, cs, ks, h, p => by
    have e : cs ++ c :: us = cs ++ [c] ++ us := by rw [List.append_assoc]; rfl
    rw [e] at p ⊢
    refine best_fold us (cs ++ [c]) (keepS ks c) (h.step fun x m => ?_) p
    have := (List.pairwise_append.mp (List.pairwise_append.mp p).1).2.2 x m c (List.mem_singleton.mpr rfl)
    rcases this with q | q <;> omega
theorem best_of {us : List Tri} (p : us.Pairwise triLe) : Best us (us.foldl keepS []) := by
  have z : Best [] [] := ⟨fun k m => absurd m (List.not_mem_nil), fun c m => absurd m (List.not_mem_nil), List.Pairwise.nil⟩
  exact best_fold us [] [] z p
theorem Best.perm {cs cs' ks : List Tri} (h : Best cs ks) (p : cs.Perm cs') : Best cs' ks := ⟨fun k m => p.mem_iff.mp (h.sub k m), fun c m => h.cov c (p.mem_iff.mpr m), h.ord⟩
/-- the least for a required number -/
structure Least (cs : List Tri) (R : Int) (k : Tri) : Prop where
  mem : k ∈ cs
  le : k.1 ≤ R
  least : ∀ c ∈ cs, c.1 ≤ R → k.2.1 ≤ c.2.1
theorem Best.least {cs ks : List Tri} (h : Best cs ks) {R : Int} {k : Tri} (e : (ks.filter fun c => decide (c.1 ≤ R)).getLast? = some k) : Least cs R k := by
  have hp : (ks.filter fun c => decide (c.1 ≤ R)).Pairwise fun x y => x.1 ≤ y.1 ∧ y.2.1 < x.2.1 := h.ord.filter _
  have hl := pw_last hp e
  obtain ⟨m1, m2⟩ := List.mem_filter.mp (List.mem_of_getLast? e)
  refine ⟨h.sub k m1, of_decide_eq_true m2, fun c hc hr => ?_⟩
  obtain ⟨k', hk, h1, h2⟩ := h.cov c hc
  have := (hl k' (List.mem_filter.mpr ⟨hk, decide_eq_true (by omega)⟩)).2
  omega
end Fld
namespace Fld
open PySem PySem.Spec PyProof.Rows L2
abbrev trisOf (F : List Fd) (es : Ent) (f : Fd) (base : Nat) : List Tri := (linesL F es f).map (tri base)
def sp_referable (K : PySem.W.Frag) : Sp := fun vs H Q _ => ∃ (t D : Addr) (F : List Fd) (es : Ent), vs = [.ref t, .ref D] ∧ TabV K H t D F es ∧ ShOk F es ∧
  ∀ a ys H', Same H H' → H a = none → H' a = some (.lst ys) → Paired (RfV K H') ys (refs F es) → Q (.ref a) H'
def sp_line_choices (K : PySem.W.Frag) : Sp := fun vs H Q _ => ∃ (t D : Addr) (F : List Fd) (es : Ent) (fv : V) (f : Fd) (base : Nat), vs = [.ref t, .ref D, fv, .int (base : Nat)] ∧ TabV K H t D F es ∧ ShOk F es ∧ FdV K H fv f ∧ FdOk f ∧ base ≤ 9999 ∧
  ∀ a ys H', Same H H' → H a = none → H' a = some (.lst ys) → TrisV K H' ys (trisOf F es f base) → Q (.ref a) H'
def sp_best_choices (K : PySem.W.Frag) : Sp := fun vs H Q _ => ∃ (t D : Addr) (F : List Fd) (es : Ent) (fv : V) (f : Fd) (base : Nat), vs = [.ref t, .ref D, fv, .int (base : Nat)] ∧ TabV K H t D F es ∧ ShOk F es ∧ FdV K H fv f ∧ FdOk f ∧ base ≤ 9999 ∧
  ∀ a ys ks H', Same H H' → H a = none → H' a = some (.lst ys) → TrisV K H' ys ks → Best (trisOf F es f base) ks → ks.length ≤ 104 → Q (.ref a) H'
def sp_best_choice (K : PySem.W.Frag) : Sp := fun vs H Q _ => ∃ (a : Addr) (xs : List V) (ks cs : List Tri) (R : Nat), vs = [.ref a, .int (R : Nat)] ∧ SqL K H a xs ∧ TrisV K H xs ks ∧ Best cs ks ∧ cs.length ≤ 1000 ∧ (∃ c ∈ cs, c.1 ≤ (R : Int)) ∧ ks.length ≤ 1000 ∧
  ∀ v k H', Same H H' → TriV K H' v k → Least cs R k → Q v H'
theorem p_sqx {α : Type} {R : V → α → Prop} {ys zs : List V} {as bs : List α} (h : Paired R ys as) (h2 : Paired R zs bs) : Paired R (ys ++ zs) (as ++ bs) := p_app h h2
theorem fd_dp {K : PySem.W.Frag} {H : Hp} {v : V} {f : Fd} (h : FdV K H v f) : Dp K H v (fdat f) := h.dp
theorem fd_shaped {f : Fd} (h : FdOk f) : SeqAt.shaped (fdat f) = true := by
  have h1 : (fdat f).canLay0 = true := by
    show (PyData.tuple [.str f.1, .str f.2]).canLay0 = true
    simp [PyData.canLay0, PyData.canLayAll0, strOk_txt h.n, strOk_txt h.v]
  show ((fdat f).canLay0 && decide ((fdat f).depth ≤ 64)) = true
  rw [h1]
  rfl
theorem fd_eqv (f g : Fd) : PyData.eqv (fdat f) (fdat g) = decide (f = g) := by
  obtain ⟨f1, f2⟩ := f
  obtain ⟨g1, g2⟩ := g
  show PyData.eqv (.tuple [.str f1, .str f2]) (.tuple [.str g1, .str g2]) = decide ((f1, f2) = (g1, g2))
  rw [Bool.eq_iff_iff, decide_eq_true_eq]
  simp [PyData.eqv, PyData.eqvAll, Prod.mk.injEq]
theorem lines_step {F : List Fd} {es : Ent} {f : Fd} {i : Nat} {r : Rf} (h : (refs F es)[i]? = some r) : ((refs F es).take (i + 1)).filterMap (Rf.ln f) = ((refs F es).take i).filterMap (Rf.ln f) ++ (Rf.ln f r).toList := by
  rw [List.take_add_one, h, List.filterMap_append]
  rfl
end Fld
namespace Fld
open PySem PySem.Spec PyProof.Rows L2
theorem at_last {α : Type} {xs : List α} {x : α} (h : xs.length ≤ 100000) : atI (xs ++ [x]) (-1) = some x := by
  unfold atI ixN
  rw [if_neg (by decide), List.length_append]
  have e : ((xs.length + ([x] : List α).length : Nat) : Int) = (xs.length : Int) + 1 := by simp
  rw [if_pos (by rw [e]; omega)]
  show (xs ++ [x])[((-1 : Int) + ((xs.length + ([x] : List α).length : Nat) : Int)).toNat]? = some x
  rw [e, show ((-1 : Int) + ((xs.length : Int) + 1)).toNat = xs.length by omega]
  rw [List.getElem?_append_right (Nat.le_refl _), Nat.sub_self]
  rfl
theorem p_last {α β : Type} {R : α → β → Prop} {xs : List α} {ts : List β} {t : β} (h : Paired R xs ts) (e : ts.getLast? = some t) : ∃ ys x, xs = ys ++ [x] ∧ R x t := by
  obtain ⟨us, rfl⟩ := List.getLast?_eq_some_iff.mp e
  have h2 := p_rev h
  rw [List.reverse_append] at h2
  generalize hz : xs.reverse = zs at h2
  cases h2 with
  | cons h1 h2 =>
    rename_i x rest
    refine ⟨rest.reverse, x, ?_, h1⟩
    have := congrArg List.reverse hz
    rw [List.reverse_reverse] at this
    rw [this, List.reverse_cons]
theorem keepS_len (ks : List Tri) (c : Tri) : (keepS ks c).length ≤ ks.length + 1 := by
  unfold keepS
  split
  · rw [List.length_append]; simp
  · split
    · rw [List.length_append]; simp
    · omega
theorem keepS_none {ks : List Tri} {c : Tri} (e : ks.getLast? = none) : keepS ks c = ks ++ [c] := by unfold keepS; rw [e]
theorem keepS_lt {ks : List Tri} {c k : Tri} (e : ks.getLast? = some k) (h : c.2.1 < k.2.1) : keepS ks c = ks ++ [c] := by
  unfold keepS; rw [e]; show (if c.2.1 < k.2.1 then ks ++ [c] else ks) = _; rw [if_pos h]
theorem keepS_ge {ks : List Tri} {c k : Tri} (e : ks.getLast? = some k) (h : ¬ c.2.1 < k.2.1) : keepS ks c = ks := by
  unfold keepS; rw [e]; show (if c.2.1 < k.2.1 then ks ++ [c] else ks) = _; rw [if_neg h]
theorem foldK_len : ∀ (us ks : List Tri), (us.foldl keepS ks).length ≤ ks.length + us.length
  | [], ks => by simp
  | u :: us, ks => by
    have h1 := foldK_len us (keepS ks u)
    have h2 := keepS_len ks u
    show (us.foldl keepS (keepS ks u)).length ≤ ks.length + (us.length + 1)
    omega
theorem fold_step {us : List Tri} {i : Nat} {u : Tri} (h : us[i]? = some u) : (us.take (i + 1)).foldl keepS [] = keepS ((us.take i).foldl keepS []) u := by
  rw [List.take_add_one, h, List.foldl_append]
  rfl
end Fld
namespace Fld
open PySem PySem.Spec PyProof.Rows L2
section
variable {J : It} {n : Nat} {G : Hp → Prop} {Y : Nat → Hp → V → Hp → Prop} {g : TG} {te : TE} {vs : List Nat} {σ : L2.St} {H1 : Hp} {D : Addr} {Qd : Hp → Prop}
/-- all but D stands -/
def Bt (D : Addr) (H H' : Hp) : Prop := ∀ c o, c ≠ D → H c = some o → H' c = some o
theorem Bt.of {H H' : Hp} (s : Same H H') : Bt D H H' := fun c o _ e => s c o e
/-- as lc_rel, with things that stand as long as all but the list stands -/
theorem lc_relB {α : Type} {R : V → α → Hp → Prop} (as : List α) (mono : ∀ v a H H', (∃ zs, H D = some (.lst zs)) → Bt D H H' → R v a H → R v a H') (w : Walk J n G Y) (hn : n = as.length) (hz : as.length ≤ 10000000) (hD : H1 D = none) (hG : ∀ H, Same H1 H → G H)
    (hs : ∀ i x a H' H'' (Q' : VK) (Z : Hp → Prop), as[i]? = some a → Same H1 H' → H' D ≠ none → Y i H' x H'' → (∀ y H4, Same H' H4 → R y a H4 → Q' y H4) →
      g x (wipe σ vs) H'' fun σ2 H2 => wipe σ2 vs = wipe σ vs ∧ tYes σ2 H2 fun b H3 => if b = true then te σ2 H3 Q' else Z H3)
    (hd : ∀ ys H', Same H1 H' → H' D = some (.lst ys) → Paired (fun v a => R v a H') ys as → Qd H') :
    ∃ W : Nat → Nat → Hp → Prop, (∃ m, W 0 m (upd H1 D (.lst []))) ∧ ∀ i m H, W i m H →
      (J.stop i H ∧ Qd H) ∨ (J.go i H ∧ ∃ Nx : Hp → Prop, (∀ H', Nx H' → ∃ m', m' < m ∧ W (i + 1) m' H') ∧ ∀ x H', J.yld i H x H' → g x (wipe σ vs) H' fun σ2 H2 => wipe σ2 vs = wipe σ vs ∧ tYes σ2 H2 fun b H3 =>
        if b = true then te σ2 H3 fun y H4 => ∃ acc, H4 D = some (.lst acc) ∧ acc.length < sizeLine ∧ Nx (upd H4 D (.lst (acc ++ [y]))) else Nx H3) := by
  subst hn
  have up : ∀ H o, Same H1 H → Same H1 (upd H D o) := fun H o s b u e => by rw [upd_ne (ne_of_none e hD)]; exact s b u e
  refine lc_gen w (fun i ys H => Same H1 H ∧ Paired (fun v a => R v a H) ys (as.take i)) hz ⟨up _ _ (Same.refl _), .nil⟩ (fun i ys H h => hG H h.1) ?_ ?_
  · rintro i ys x H H' Q' Z hi hl hDl ⟨s, p⟩ y q
    refine hs i x as[i] H H' Q' Z (List.getElem?_eq_getElem hi) s (by rw [hDl]; exact (fun z => nomatch z)) y fun v H4 s4 r4 => ?_
    have g4 := s4 D _ hDl
    have t4 : Bt D H4 (upd H4 D (.lst (ys ++ [v]))) := fun c o n e => by rw [upd_ne n]; exact e
    refine q v H4 g4 ⟨up _ _ (s.trans s4), ?_⟩
    rw [List.take_add_one, List.getElem?_eq_getElem hi]
    exact p_app (pmap (fun _ _ z => mono _ _ _ _ ⟨_, g4⟩ t4 (mono _ _ _ _ ⟨_, hDl⟩ (.of s4) z)) p) (.cons (mono _ _ _ _ ⟨_, g4⟩ t4 r4) .nil)
  · rintro ys H hl hDl ⟨s, p⟩
    rw [List.take_length] at p
    exact hd ys H s hDl p
end
/-! ### the fewest -/
theorem least_ex {R : Int} : ∀ {cs : List Tri}, (∃ c ∈ cs, c.1 ≤ R) → ∃ k, Least cs R k
  | [], h => by obtain ⟨c, m, _⟩ := h; cases m
  | c :: cs, h => by
    by_cases hc : ∃ x ∈ cs, x.1 ≤ R
    · obtain ⟨k, hk⟩ := least_ex hc
      by_cases h2 : c.1 ≤ R ∧ c.2.1 < k.2.1
      · refine ⟨c, List.mem_cons_self .., h2.1, fun x m hx => ?_⟩
        rcases List.mem_cons.mp m with rfl | m
        · omega
        · have := hk.least x m hx; omega
      · refine ⟨k, List.mem_cons_of_mem _ hk.mem, hk.le, fun x m hx => ?_⟩
        rcases List.mem_cons.mp m with rfl | m
        · omega
        · exact hk.least x m hx
    · obtain ⟨x, m, hx⟩ := h
      rcases List.mem_cons.mp m with rfl | m
      · refine ⟨x, List.mem_cons_self .., hx, fun y m hy => ?_⟩
        rcases List.mem_cons.mp m with rfl | m
        · omega
        · exact absurd ⟨y, m, hy⟩ hc
      · exact absurd ⟨x, m, hx⟩ hc
theorem least_uniq {cs : List Tri} {R : Int} {k k' : Tri} (h : Least cs R k) (h' : Least cs R k') : k.2.1 = k'.2.1 := by
  have a := h.least k' h'.mem h'.le
  have b := h'.least k h.mem h.le
  omega
theorem out_in (F : List Fd) (es : Ent) (f : Fd) (b R : Nat) : ∃ c ∈ trisOf F es f b, c.1 ≤ (R : Int) := ⟨_, List.mem_map.mpr ⟨_, List.mem_cons_self .., rfl⟩, by show ((0 : Nat) : Int) ≤ (R : Int); omega⟩
/-- the fewest octets of a line for a field -/
noncomputable def mn (F : List Fd) (es : Ent) (f : Fd) (b R : Nat) : Nat := (Classical.choose (least_ex (out_in F es f b R))).2.1.toNat
theorem mn_eq {F : List Fd} {es : Ent} {f : Fd} {b R : Nat} {k : Tri} (h : Least (trisOf F es f b) R k) : k.2.1 = (mn F es f b R : Nat) := by
  have z := Classical.choose_spec (least_ex (out_in F es f b R))
  have e := least_uniq h z
  unfold mn
  generalize Classical.choose (least_ex (out_in F es f b R)) = k' at z e
  obtain ⟨l, _, rfl⟩ := List.mem_map.mp z.mem
  rw [e]
  show (((l.oct b).length : Nat) : Int) = ((((l.oct b).length : Nat) : Int).toNat : Nat)
  omega
theorem mn_spec (F : List Fd) (es : Ent) (f : Fd) (b R : Nat) : (∃ l ∈ linesL F es f, lnReq l ≤ R ∧ (l.oct b).length = mn F es f b R) ∧ ∀ l ∈ linesL F es f, lnReq l ≤ R → mn F es f b R ≤ (l.oct b).length := by
  obtain ⟨k, hk⟩ := least_ex (out_in F es f b R)
  have e := mn_eq hk
  constructor
  · obtain ⟨l, hl, rfl⟩ := List.mem_map.mp hk.mem
    have h1 : ((lnReq l : Nat) : Int) ≤ (R : Int) := hk.le
    have h2 : (((l.oct b).length : Nat) : Int) = (mn F es f b R : Nat) := e
    exact ⟨l, hl, by omega, by omega⟩
  · intro l hl hr
    have := hk.least (tri b l) (List.mem_map.mpr ⟨l, hl, rfl⟩) (by show ((lnReq l : Nat) : Int) ≤ (R : Int); omega)
    rw [e] at this
    have h2 : ((mn F es f b R : Nat) : Int) ≤ (((l.oct b).length : Nat) : Int) := this
    omega
def headN (R b : Nat) : Nat := (numOct R 8 0).length + (numOct (R - b) 8 0).length
noncomputable def lenN (F : List Fd) (es : Ent) (fs : List Fd) (R b : Nat) : Nat := headN R b + (fs.map fun f => mn F es f b R).sum
def lenK (p : Nat × Nat) : List Key := [nkey p.1, nkey p.2]
theorem lenK_inj {p q : Nat × Nat} (h : lenK p = lenK q) : p = q := by
  unfold lenK at h
  have h1 := nkey_inj (List.cons.inj h).1
  have h2 := nkey_inj (List.cons.inj (List.cons.inj h).2).1
  exact Prod.ext h1 h2
noncomputable def lenE (F : List Fd) (es : Ent) (fs : List Fd) (p : Nat × Nat) : List Key × V := (lenK p, V.int (lenN F es fs p.1 p.2 : Nat))
def rowK (lo R : Nat) : List (Nat × Nat) := (List.range (R + 1 - min lo R)).map fun j => (R, min lo R + j)
def keysL (rs : List Nat) (lo : Nat) : List (Nat × Nat) := rs.flatMap (rowK lo)
/-- the numbers of the entries, ascending -/
def skeys (es : Ent) : List Nat := (es.map (·.1)).mergeSort (fun a b => decide (a ≤ b))
def reqsL (es : Ent) : List Nat := 0 :: (skeys es).map (· + 1)
theorem skeys_perm (es : Ent) : (skeys es).Perm (es.map (·.1)) := List.mergeSort_perm _ _
theorem skeys_srt (es : Ent) : (skeys es).Pairwise (· ≤ ·) := by
  have := List.pairwise_mergeSort (le := fun a b : Nat => decide (a ≤ b)) (fun a b c h1 h2 => decide_eq_true (Nat.le_trans (of_decide_eq_true h1) (of_decide_eq_true h2))) (fun a b => by simp only [Bool.or_eq_true, decide_eq_true_eq]; omega) (es.map (·.1))
  exact this.imp fun h => of_decide_eq_true h
theorem skeys_of {es : Ent} {ys : List Int} (p : ys.Perm (es.map fun e => ((e.1 : Nat) : Int))) (o : ys.Pairwise (· ≤ ·)) : ys = (skeys es).map fun (n : Nat) => (n : Int) := by
  refine PySem.W.ksm_same (p.trans ?_) o ?_
  · have := ((skeys_perm es).map fun (n : Nat) => (n : Int)).symm
    rw [List.map_map] at this
    exact this
  · rw [List.pairwise_map]
    exact (skeys_srt es).imp fun h => by omega
end Fld
namespace Fld
open PySem PySem.Spec PyProof.Rows L2
def fd00 : Fd := (("" : Str), ("" : Str))
/-- the choices of a field, in a list -/
def RowV (K : PySem.W.Frag) (F : List Fd) (es : Ent) (b : Nat) (v : V) (f : Fd) (H : Hp) : Prop := ∃ a ys ks, v = .ref a ∧ H a = some (.lst ys) ∧ TrisV K H ys ks ∧ Best (trisOf F es f b) ks ∧ ks.length ≤ 104
def RowD (K : PySem.W.Frag) (F : List Fd) (es : Ent) (D : Addr) (b : Nat) (v : V) (f : Fd) (H : Hp) : Prop := RowV K F es b v f H ∧ v ≠ .ref D
theorem RowV.but {K : PySem.W.Frag} {F : List Fd} {es : Ent} {b : Nat} {v : V} {f : Fd} {H H' : Hp} (h : RowV K F es b v f H) (k : ∀ c o, (∀ z, v = .ref z → (c = z ∨ IsTupO o)) → H c = some o → H' c = some o) : RowV K F es b v f H' := by
  obtain ⟨a, ys, ks, rfl, g, ht, r⟩ := h
  have t : TS H H' := fun c u z e => k c u (fun _ _ => .inr z) e
  exact ⟨a, ys, ks, rfl, k a _ (fun z e => .inl (V.ref.inj e)) g, ht.ts t, r⟩
theorem RowV.same {K : PySem.W.Frag} {F : List Fd} {es : Ent} {b : Nat} {v : V} {f : Fd} {H H' : Hp} (h : RowV K F es b v f H) (s : Same H H') : RowV K F es b v f H' := h.but fun c o _ e => s c o e
theorem RowD.bt {K : PySem.W.Frag} {F : List Fd} {es : Ent} {D : Addr} {b : Nat} {v : V} {f : Fd} {H H' : Hp} (hD : ∃ zs, H D = some (.lst zs)) (h : RowD K F es D b v f H) (s : Bt D H H') : RowD K F es D b v f H' := by
  refine ⟨h.1.but fun c o q e => s c o (fun z => ?_) e, h.2⟩
  obtain ⟨a, ys, ks, rfl, g, _⟩ := h.1
  rcases q a rfl with y | y
  · exact h.2 (by rw [← y, z])
  · obtain ⟨zs, hz⟩ := hD
    rw [z, hz] at e
    have := Option.some.inj e
    subst this
    exact nt_lst y
def RowsV (K : PySem.W.Frag) (F : List Fd) (es : Ent) (fs : List Fd) (kvs : List (Key × V)) (H : Hp) : Prop := ∀ k v, (k, v) ∈ kvs → ∃ (b : Nat) (a : Addr) (ys : List V), b ≤ 9999 ∧ k = nkey b ∧ v = .ref a ∧ H a = some (.lst ys) ∧ Paired (fun x f => RowV K F es b x f H) ys fs
/-- all but two stand -/
def But2 (p q : Addr) (H H' : Hp) : Prop := ∀ c o, c ≠ p → c ≠ q → H c = some o → H' c = some o
theorem RowsV.but2 {K : PySem.W.Frag} {F : List Fd} {es : Ent} {fs : List Fd} {kvs kv2 : List (Key × V)} {kt : List (List Key × V)} {p q : Addr} {H H' : Hp} (h : RowsV K F es fs kvs H) (hp : H p = some (.dK kv2)) (hq : H q = some (.dT kt)) (s : But2 p q H H') : RowsV K F es fs kvs H' := by
  have ne : ∀ c o, (IsTupO o ∨ ∃ xs, o = .lst xs) → H c = some o → H' c = some o := fun c o ho e => by
    refine s c o (fun z => ?_) (fun z => ?_) e
    · rw [z, hp] at e
      have := Option.some.inj e
      subst this
      rcases ho with ho | ⟨xs, ho⟩
      · exact nt_dK ho
      · cases ho
    · rw [z, hq] at e
      have := Option.some.inj e
      subst this
      rcases ho with (⟨xs, ho⟩ | ⟨o', xs, ho⟩) | ⟨xs, ho⟩ <;> cases ho
  intro k v m
  obtain ⟨b, a, ys, hb, hk, hv, g, hp⟩ := h k v m
  refine ⟨b, a, ys, hb, hk, hv, ne _ _ (.inr ⟨_, rfl⟩) g, pmap (fun x f z => ?_) hp⟩
  obtain ⟨a', ys', ks, rfl, g', ht, r⟩ := z
  have t : TS H H' := fun c u z e => ne c u (.inl z) e
  exact ⟨a', ys', ks, rfl, ne _ _ (.inr ⟨_, rfl⟩) g', ht.ts t, r⟩
theorem valV_mem {κ : Type} [DecidableEq κ] {kvs : List (κ × V)} {k : κ} {v : V} (h : valV kvs k = some v) : (k, v) ∈ kvs := by
  unfold valV at h
  obtain ⟨e, h1, h2⟩ := Option.map_eq_some_iff.mp h
  have h3 := List.mem_of_find?_eq_some h1
  have h4 : e.1 = k := by have := List.find?_some h1; simpa using this
  rw [← h4, ← h2]; exact h3
theorem valV_no {κ : Type} [DecidableEq κ] {kvs : List (κ × V)} {k : κ} (h : ∀ e ∈ kvs, e.1 ≠ k) : valV kvs k = none := by
  unfold valV
  rw [Option.map_eq_none_iff, List.find?_eq_none]
  intro e m z
  exact h e m (of_decide_eq_true z)
def LenD (F : List Fd) (es : Ent) (fs : List Fd) (ps : List (Nat × Nat)) (H : Hp) (a : Addr) : Prop := ∃ kvs, H a = some (.dT kvs) ∧ kvs = ps.map (lenE F es fs)
def sp_fewest (K : PySem.W.Frag) : Sp := fun vs H Q _ => ∃ (t D u : Addr) (F : List Fd) (es : Ent) (xs : List V) (fs : List Fd) (lo : Nat), vs = [.ref t, .ref D, .ref u, .int (lo : Nat)] ∧ TabV K H t D F es ∧ ShOk F es ∧ SqT K H u xs ∧ FdsV K H xs fs ∧ (∀ f ∈ fs, FdOk f) ∧ fs.length ≤ 16 ∧
  ∀ a H', Same H H' → H a = none → LenD F es fs (keysL (reqsL es) lo) H' a → Q (.ref a) H'
theorem reqs_le {F : List Fd} {es : Ent} (h : ShOk F es) : ∀ r ∈ reqsL es, r ≤ 9999 := by
  intro r m
  rcases List.mem_cons.mp m with rfl | m
  · omega
  · obtain ⟨n, hn, rfl⟩ := List.mem_map.mp m
    obtain ⟨e, he, rfl⟩ := List.mem_map.mp ((skeys_perm es).mem_iff.mp hn)
    have := h.key e he
    omega
theorem reqs_nd {es : Ent} (nd : (es.map (·.1)).Nodup) : (reqsL es).Nodup := by
  refine List.nodup_cons.mpr ⟨fun m => ?_, ?_⟩
  · obtain ⟨n, _, hn⟩ := List.mem_map.mp m
    omega
  · have h1 : (skeys es).Nodup := (skeys_perm es).nodup_iff.mpr nd
    exact List.Pairwise.map _ (fun a b h z => h (by omega)) h1
theorem keys_in {rs : List Nat} {lo : Nat} {p : Nat × Nat} : p ∈ keysL rs lo ↔ p.1 ∈ rs ∧ min lo p.1 ≤ p.2 ∧ p.2 ≤ p.1 := by
  unfold keysL rowK
  rw [List.mem_flatMap]
  constructor
  · rintro ⟨r, hr, m⟩
    obtain ⟨j, hj, rfl⟩ := List.mem_map.mp m
    have := List.mem_range.mp hj
    exact ⟨hr, by show min lo r ≤ min lo r + j; omega, by show min lo r + j ≤ r; omega⟩
  · rintro ⟨h1, h2, h3⟩
    refine ⟨p.1, h1, List.mem_map.mpr ⟨p.2 - min lo p.1, List.mem_range.mpr (by omega), ?_⟩⟩
    exact Prod.ext rfl (by show min lo p.1 + (p.2 - min lo p.1) = p.2; omega)
theorem sum_mn (l : List Fd) (g : Fd → Nat) : (l.map fun f => ((g f : Nat) : Int)).sum = (((l.map g).sum : Nat) : Int) := by
  induction l with
  | nil => rfl
  | cons f l ih => rw [List.map_cons, List.sum_cons, ih, List.map_cons, List.sum_cons]; omega
theorem keys_len (rs : List Nat) (lo : Nat) (h : ∀ r ∈ rs, r ≤ 9999) : (keysL rs lo).length ≤ 10000 * rs.length := by
  induction rs with
  | nil => simp [keysL]
  | cons r rs ih =>
    have h1 := ih fun x m => h x (List.mem_cons_of_mem _ m)
    have h2 := h r (List.mem_cons_self ..)
    have e : keysL (r :: rs) lo = rowK lo r ++ keysL rs lo := rfl
    rw [e, List.length_append]
    have e2 : (rowK lo r).length = r + 1 - min lo r := by unfold rowK; rw [List.length_map, List.length_range]
    rw [e2, List.length_cons]
    omega
end Fld
namespace Fld
open PySem PySem.Spec PyProof.Rows L2
noncomputable def pr3 (F : List Fd) (es : Ent) (fs : List Fd) (p : Nat × Nat) : P3 := ((lenN F es fs p.1 p.2 : Nat), (p.1 : Nat), (p.2 : Nat))
/-- the key with the fewest octets, then the least -/
structure BestP (F : List Fd) (es : Ent) (fs : List Fd) (ps : List (Nat × Nat)) (p : Nat × Nat) : Prop where
  mem : p ∈ ps
  le : ∀ x ∈ ps, le3 (pr3 F es fs p) (pr3 F es fs x)
theorem BestP.min {F : List Fd} {es : Ent} {fs : List Fd} {ps : List (Nat × Nat)} {p : Nat × Nat} (h : BestP F es fs ps p) : ∀ x ∈ ps, lenN F es fs p.1 p.2 ≤ lenN F es fs x.1 x.2 := fun x m => by
  have := h.le x m
  unfold le3 pr3 at this
  dsimp only at this
  omega
def sp_best_pair (K : PySem.W.Frag) : Sp := fun vs H Q _ => ∃ (a : Addr) (F : List Fd) (es : Ent) (fs : List Fd) (ps : List (Nat × Nat)), vs = [.ref a] ∧ LenD F es fs ps H a ∧ ps ≠ [] ∧ ps.length ≤ 1000000 ∧
  ∀ t p H', Same H H' → SqT K H' t [.int ((p.1 : Nat) : Int), .int ((p.2 : Nat) : Int)] → BestP F es fs ps p → Q (.ref t) H'
theorem len_val {F : List Fd} {es : Ent} {fs : List Fd} : ∀ {ps : List (Nat × Nat)} {p : Nat × Nat}, p ∈ ps → valV (ps.map (lenE F es fs)) (lenK p) = some (V.int (lenN F es fs p.1 p.2 : Nat))
  | x :: ps, p, m => by
    by_cases e : x = p
    · subst e
      rw [List.map_cons]
      exact valV_pos rfl
    · rw [List.map_cons, valV_neg (fun z => e (lenK_inj z))]
      exact len_val ((List.mem_cons.mp m).resolve_left fun z => e z.symm)
theorem len_no {F : List Fd} {es : Ent} {fs : List Fd} {ps : List (Nat × Nat)} {p : Nat × Nat} (h : p ∉ ps) : valV (ps.map (lenE F es fs)) (lenK p) = none := valV_no fun e m z => by
  obtain ⟨x, hx, rfl⟩ := List.mem_map.mp m
  exact h (by rw [← lenK_inj z]; exact hx)
/-- a block of lines for the fields -/
structure SayB (F : List Fd) (es : Ent) (fs : List Fd) (R b : Nat) (ls : List Ln) : Prop where
  len : ls.length = fs.length
  ok : ∀ l ∈ ls, l.Ok R
  said : saidL F es ls = some fs
  oct : (lnsOct b ls).length = (fs.map fun f => mn F es f b R).sum
def sp_best_block (K : PySem.W.Frag) : Sp := fun vs H Q _ => ∃ (t D u : Addr) (F : List Fd) (es : Ent) (xs : List V) (fs : List Fd) (R b : Nat), vs = [.ref t, .ref D, .ref u, .int (R : Nat), .int (b : Nat)] ∧ TabV K H t D F es ∧ ShOk F es ∧ SqT K H u xs ∧ FdsV K H xs fs ∧ (∀ f ∈ fs, FdOk f) ∧ fs.length ≤ 16 ∧ R ≤ 9999 ∧ b ≤ R ∧
  ∀ v ls H', Same H H' → BlkV K H' v ⟨R, b, ls⟩ → SayB F es fs R b ls → Q v H'
theorem sayB_of {F : List Fd} {es : Ent} {R b : Nat} (ok : ShOk F es) : ∀ {ks : List Tri} {fs : List Fd}, Paired (fun k f => Least (trisOf F es f b) R k) ks fs → (∀ f ∈ fs, FdOk f) → SayB F es fs R b (ks.map fun k => k.2.2)
  | _, _, .nil, _ => ⟨rfl, fun l m => (nomatch m), rfl, rfl⟩
  | k :: ks, f :: fs, .cons h t, hf => by
    have ih := sayB_of ok t fun g m => hf g (List.mem_cons_of_mem _ m)
    have e := mn_eq h
    obtain ⟨l, hl, rfl⟩ := List.mem_map.mp h.mem
    have hr : ((lnReq l : Nat) : Int) ≤ (R : Int) := h.le
    have e' : (((l.oct b).length : Nat) : Int) = (mn F es f b R : Nat) := e
    refine ⟨by rw [List.map_cons, List.length_cons, List.length_cons, ih.len], fun x m => ?_, ?_, ?_⟩
    · rcases List.mem_cons.mp m with z | m
      · rw [z]; exact line_ok ok (hf f (List.mem_cons_self ..)) l hl (by omega)
      · exact ih.ok x m
    · show saidL F es (l :: ks.map fun k => k.2.2) = some (f :: fs)
      unfold saidL
      rw [line_said ok.nd l hl, ih.said]
      rfl
    · show (lnsOct b (l :: ks.map fun k => k.2.2)).length = _
      have e2 : lnsOct b (l :: ks.map fun k => k.2.2) = l.oct b ++ lnsOct b (ks.map fun k => k.2.2) := rfl
      rw [e2, List.length_append, ih.oct, List.map_cons, List.sum_cons]
      omega
theorem SayB.blk {F : List Fd} {es : Ent} {fs : List Fd} {R b : Nat} {ls : List Ln} (h : SayB F es fs R b ls) (hR : R ≤ 9999) (hb : b ≤ R) (hl : fs.length ≤ 16) : (⟨R, b, ls⟩ : Blk).Ok := ⟨hR, hb, by rw [h.len]; exact hl, h.ok⟩
theorem SayB.octs {F : List Fd} {es : Ent} {fs : List Fd} {R b : Nat} {ls : List Ln} (h : SayB F es fs R b ls) : (⟨R, b, ls⟩ : Blk).oct.length = lenN F es fs R b := by
  show ((numOct R 8 0 ++ numOct (R - b) 8 0) ++ lnsOct b ls).length = _
  rw [List.length_append, List.length_append, h.oct]
  rfl
theorem lns_of_tris {K : PySem.W.Frag} {H : Hp} {xs : List V} {ls : List Ln} (h : Paired (fun v l => LnV K H v l) xs ls) : LnsV K H xs ls := by
  induction h with
  | nil => exact .nil
  | cons h _ ih => exact .cons h ih
theorem dFields_ok {F : List Fd} {m : Nat} (h : ∀ f ∈ F, FdOk f) (hl : F.length ≤ m) : dFields m (.tuple (F.map fdat)) = true := by
  show (decide ((F.map fdat).length ≤ m) && (F.map fdat).all dField) = true
  rw [List.length_map, decide_eq_true hl, Bool.true_and, List.all_eq_true]
  intro d hd
  obtain ⟨f, hf, rfl⟩ := List.mem_map.mp hd
  exact dField_fd (h f hf)
theorem lim_fds {F : List Fd} (h : ∀ f ∈ F, FdOk f) (hl : F.length ≤ 40) : Lim (.tuple (F.map fdat)) := ⟨(sz_fds h hl).ok, by have := (sz_fds h hl).w; omega⟩
theorem shOk_of {F : List Fd} {r w : Nat} {es : Ent} (h : SetOk F r w) (e : EsOk 24 es) : ShOk F es := ⟨by have := h.len; omega, h.fd, by have := e.len; omega, fun x m => by have := e.key x m; omega, e.fd, e.nd⟩
abbrev allK (es : Ent) : List (Nat × Nat) := keysL (reqsL es) 0
theorem p_mapR {α β γ : Type} {R : α → γ → Prop} {g : β → γ} {xs : List α} {ys : List β} (h : Paired (fun x y => R x (g y)) xs ys) : Paired R xs (ys.map g) := by
  induction h with
  | nil => exact .nil
  | cons h _ ih => exact .cons h ih
theorem p_choose {α β γ : Type} {A : α → γ → Prop} {B : γ → β → Prop} {xs : List α} {ys : List β} (h : Paired (fun x y => ∃ k, A x k ∧ B k y) xs ys) : ∃ ks, Paired A xs ks ∧ Paired B ks ys := by
  induction h with
  | nil => exact ⟨[], .nil, .nil⟩
  | cons h _ ih =>
    obtain ⟨k, h1, h2⟩ := h
    obtain ⟨ks, i1, i2⟩ := ih
    exact ⟨k :: ks, .cons h1 i1, .cons h2 i2⟩
def sp_checked (K : PySem.W.Frag) : Sp := fun vs H Q _ => ∃ (sv : V) (D u : Addr) (F : List Fd) (r w : Nat) (es : Ent) (xs : List V) (fs : List Fd), vs = [sv, .ref D, .ref u] ∧ SetV K H sv F r w ∧ SetOk F r w ∧ EntV K H D es ∧ EsOk 24 es ∧ SqT K H u xs ∧ FdsV K H xs fs ∧ (∀ f ∈ fs, FdOk f) ∧ fs.length ≤ 16 ∧
  ∀ a H', Same H H' → H a = none → LenD F es fs (allK es) H' a → Q (.ref a) H'
/-- what shortest tells -/
structure ShRes (F : List Fd) (es : Ent) (fs : List Fd) (n : Nat) (oc : List Int) : Prop where
  blk : ∃ b : Blk, b.Ok ∧ oc = b.oct ∧ saidL F es b.ls = some fs ∧ (b.req, b.base) ∈ allK es
  lng : oc.length = n
  min : ∀ p ∈ allK es, n ≤ lenN F es fs p.1 p.2
  at_ : ∃ p ∈ allK es, n = lenN F es fs p.1 p.2
def sp_shortest (K : PySem.W.Frag) : Sp := fun vs H Q _ => ∃ (sv : V) (D u : Addr) (F : List Fd) (r w : Nat) (es : Ent) (xs : List V) (fs : List Fd), vs = [sv, .ref D, .ref u] ∧ SetV K H sv F r w ∧ SetOk F r w ∧ EntV K H D es ∧ EsOk 24 es ∧ SqT K H u xs ∧ FdsV K H xs fs ∧ (∀ f ∈ fs, FdOk f) ∧ fs.length ≤ 16 ∧
  ∀ t o a n oc H', Same H H' → H t = none → H o = none → H a = none → H' t = some (.tup [.int (n : Nat), .ref o, .ref a]) → H' o = some (.lst (oc.map V.int)) → LenD F es fs (allK es) H' a → ShRes F es fs n oc → Q (.ref t) H'
theorem LenD.same {F : List Fd} {es : Ent} {fs : List Fd} {ps : List (Nat × Nat)} {H H' : Hp} {a : Addr} (h : LenD F es fs ps H a) (s : Same H H') : LenD F es fs ps H' a := let ⟨k, e, r⟩ := h; ⟨k, s _ _ e, r⟩
theorem all_ne (es : Ent) : allK es ≠ [] := fun z => by
  have : ((0 : Nat), (0 : Nat)) ∈ allK es := keys_in.mpr ⟨List.mem_cons_self .., by show min 0 0 ≤ 0; omega, Nat.le_refl _⟩
  rw [z] at this; cases this
theorem all_len {F : List Fd} {es : Ent} (h : ShOk F es) : (allK es).length ≤ 1000000 := by
  have h1 := keys_len (reqsL es) 0 (reqs_le h)
  have h2 : (reqsL es).length ≤ 64 := by
    show (List.map _ _).length + 1 ≤ _
    rw [List.length_map, (skeys_perm es).length_eq, List.length_map]
    have := h.el; omega
  unfold allK
  omega
end Fld
/-! min(d.values()), the keys tuples -/
namespace Fld
open PySem PySem.Spec PyProof.Rows L2
section
variable {prog : Program} {w : World} {A : Around} {E : Value → Shared → Prop} {s : Shared}
theorem meetsVals {d : Addr} {es : Array DictEntry} {ep : Nat} (hd : (d == sysModules) = false) :
    MeetsIn prog w (Builtin.«dict.values» ⟨[.ref d], []⟩) (fun _ R s => DT.Raw s.heap d es ep ∧
      R (.ok (.ret (.ref s.heap.objs.size))) { s with heap := s.heap.push { cls := .type "dict_values", data := .fields #[.ref d] } }) :=
  .of_wp fun A R s ⟨hm, h⟩ => by
    show wpAny _ _ (Builtin.Dict.noArgs "values" ⟨[.ref d], []⟩ >>= _) _ _ s
    unfold Builtin.Dict.noArgs
    refine wpAny_bind (wpAny_bind (wpAny_notOrdered_dict hm.typeIs ?_))
    show wpAny _ _ (pure d) _ _ s
    refine wpAny_pure ?_
    show wpAny _ _ (Builtin.Dict.showsAll d >>= _) _ _ s
    unfold Builtin.Dict.showsAll
    rw [if_neg (by rw [hd]; exact Bool.false_ne_true)]
    refine wpAny_bind (wpAny_pure ?_)
    exact wpAny_bind (wpAny_newObj_type (wpAny_pure ⟨_, rfl, h⟩))
end
section
variable {X : Cx}
def rValsT : V → List V → Hp → VK → Prop := fun x xs H Q => ∃ (a : Addr) (kvs : List (List L2.Key × V)), x = .ref a ∧ xs = [] ∧ H a = some (.dT kvs) ∧ ∀ p, H p = none → Q (.ref p) (upd H p (viewO "dict_values" p a))
theorem mt_valsT : MtR X "dict.values" rValsT := by
  intro pins s σ H x xs v us Q I rx rxs h
  obtain ⟨a, kvs, rfl, rfl, ha, q⟩ := h
  cases rx
  cases rxs
  obtain ⟨z, hd, xs', rel, o, es, ep, ho, hx, hdat, _⟩ := dt_of I.hok ha
  have R : DT.Raw s.heap a es ep := ⟨o, ho, hx, hdat⟩
  refine call_meetsIn PySem.F.slot_dict_values R.typeIs PySem.F.entry_dict_values (PySem.F.args_dict_values_1 _) (meetsVals (es := es) (ep := ep) hd) ⟨R, ?_⟩
  have hf : H s.heap.objs.size = none := I.hok.fresh (Nat.le_refl _)
  exact ⟨.ref s.heap.objs.size, upd H s.heap.objs.size (viewO "dict_values" s.heap.objs.size a), I.laid (t' := s.toks) (fun b u e => Heap.get?_push_of_some _ e) (Nat.le_refl _) (viewO_ok (Heap.get?_push_size _ rfl)), rfl, q _ hf⟩
def rMinVT : List V → Hp → VK → Prop := fun xs H Q => ∃ (p a : Addr) (kvs : List (List L2.Key × V)) (ns : List Int), xs = [.ref p] ∧ H p = some (viewO "dict_values" p a) ∧ H a = some (.dT kvs) ∧ kvs.map Prod.snd = ns.map V.int ∧ 0 < ns.length ∧ ∀ m, m ∈ ns → (∀ y, y ∈ ns → m ≤ y) → Q (.int m) H
theorem argBest_lt' (num : Nat → Int) : ∀ k, argBest (fun i j => decide (num i < num j)) k ≤ k ∧ ∀ j, j ≤ k → num (argBest (fun i j => decide (num i < num j)) k) ≤ num j
  | 0 => ⟨Nat.le_refl _, fun j hj => by
      have : j = 0 := by omega
      subst this; exact Int.le_refl _⟩
  | k + 1 => by
    obtain ⟨h1, h2⟩ := argBest_lt' num k
    simp only [argBest]
    by_cases hc : num (k + 1) < num (argBest (fun i j => decide (num i < num j)) k)
    · rw [if_pos (by simpa using hc)]
      refine ⟨Nat.le_refl _, fun j hj => ?_⟩
      rcases Nat.lt_or_ge j (k + 1) with z | z
      · have := h2 j (by omega); omega
      · rw [show j = k + 1 by omega]; exact Int.le_refl _
    · rw [if_neg (by simpa using hc)]
      refine ⟨by omega, fun j hj => ?_⟩
      rcases Nat.lt_or_ge j (k + 1) with z | z
      · exact h2 j (by omega)
      · rw [show j = k + 1 by omega]; omega
theorem cr_minVT (hc : X.calm = true) : CallR X (.builtin "min") rMinVT := by
  intro pins s σ H xs us Q I rx h
  obtain ⟨p, a, kvs, ns, rfl, hp, ha, hns, hne, q⟩ := h
  rw [Vals.ref1 rx]
  obtain ⟨z, hd, xs', rel, o, es, ep, ho, hx, hdat, hes, his, hn⟩ := dt_of I.hok ha
  have hv : s.heap.get? p = some (DSub.viewOb "dict_values" a) := (show ObjOk X.prog X.w H s.heap p (viewO "dict_values" p a) from I.hok p _ hp).1
  have l1 : kvs.length = xs'.length := Paired.length rel
  have l2 : es.size = xs'.length := size_of_entries hes
  have hkn : kvs.length = ns.length := by
    have e := congrArg List.length hns
    rw [List.length_map, List.length_map] at e
    exact e
  have hsz : es.size = ns.length := by omega
  have hP : ∀ (i : Nat) (e : DictEntry), es[i]? = some e → ∃ t, e.val = .int (ns.getD i 0) t := fun i e he => by
    have hi : i < es.size := by
      rcases Nat.lt_or_ge i es.size with z | z
      · exact z
      · rw [Array.getElem?_eq_none z] at he
        cases he
    have hi2 : i < kvs.length := by omega
    have hi3 : i < ns.length := by omega
    have hi4 : i < xs'.length := by omega
    have qe := entry_at hes i
    rw [he, List.getElem?_eq_getElem hi4] at qe
    have e1 : e = entryOfKey (tupleKind (mixKind X.prog X.w)) xs'[i] := Option.some.inj qe
    obtain ⟨e0, he0, r1, r2, r3⟩ := DX.pget rel (List.getElem?_eq_getElem hi4)
    rw [List.getElem?_eq_getElem hi2] at he0
    have ee : kvs[i] = e0 := Option.some.inj he0
    have e2 : kvs[i].2 = V.int ns[i] := by
      have z : (kvs.map Prod.snd)[i]? = (ns.map V.int)[i]? := by rw [hns]
      rw [List.getElem?_map, List.getElem?_map, List.getElem?_eq_getElem hi2, List.getElem?_eq_getElem hi3] at z
      exact Option.some.inj z
    have e3 : ns.getD i 0 = ns[i] := by rw [List.getD_eq_getElem?_getD, List.getElem?_eq_getElem hi3] <;> rfl
    rw [← ee, e2] at r3
    rw [e1, e3]
    exact r3
  refine call_min_walk ?_
  refine DSub.iter_vals hv ho hdat ?_
  have hal : a < s.heap.objs.size := Heap.lt_size ho
  refine ⟨s.heap.objs.size, [s.heap.objs.size, a], [s.heap.objs.size], es.size, fun i v => ∃ t, v = .int (ns.getD i 0) t, _, fun i j => decide (ns.getD i 0 < ns.getD j 0), rfl, DSub.walksVal (a := a) (show X.A.in1.handled = none from I.ok.hd hc) (Nat.ne_of_lt hal) hdat hP, ⟨Heap.get?_push_size _ rfl, Heap.get?_push_of_some _ ho⟩, fun b hb => ?_, by omega, CmpOf.ints_lt (fun i => ns.getD i 0) (fun i v z => z), fun v h' tk hv' hk => ?_⟩
  · show b < (s.heap.push _).objs.size
    rw [size_push']
    rcases List.mem_cons.mp hb with z | z
    · rw [z]
      exact Nat.lt_succ_self _
    · rw [List.mem_singleton.mp z]
      exact Nat.lt_succ_of_lt hal
  · obtain ⟨t, rfl⟩ := hv'
    obtain ⟨m1', m2'⟩ := argBest_lt' (fun i => ns.getD i 0) (es.size - 1)
    have m1 : argBest (fun i j => decide (ns.getD i 0 < ns.getD j 0)) (es.size - 1) ≤ es.size - 1 := m1'
    have m2 : ∀ j, j ≤ es.size - 1 → ns.getD (argBest (fun i j => decide (ns.getD i 0 < ns.getD j 0)) (es.size - 1)) 0 ≤ ns.getD j 0 := m2'
    have hk2 : ∀ b o, s.heap.get? b = some o → h'.get? b = some o := fun b o e => hk b o (fun z => by rw [List.mem_singleton.mp z] at e; exact absurd (Heap.lt_size e) (Nat.lt_irrefl _)) (Heap.get?_push_of_some _ e)
    refine ⟨.int _, H, I.kept (t' := tk) hk2, ⟨t, rfl⟩, q _ (PySem.getD_mem (by omega)) fun y hy => ?_⟩
    obtain ⟨j, hj, e⟩ := List.mem_iff_getElem.mp hy
    have z := m2 j (by omega)
    have e3 : ns.getD j 0 = y := by rw [List.getD_eq_getElem?_getD, List.getElem?_eq_getElem hj, ← e] <;> rfl
    rw [e3] at z
    exact z
end
end Fld
/-! events under way -/
namespace Fld
open PySem PySem.Spec PyProof.Rows L2
section
variable {K : PySem.W.Frag} {S : List Addr} {H : Hp} {l t : Addr} {xs ys : List V} {ds es : List PyData} {vs : List V} {evs : List Evt} {ns : List Int}
theorem offT (hq : H t = none) (hS : Hid S H) : SqT K (OffS S (upd H t (.tup xs))) t xs := SqT.of (off_new hq hS)
theorem offL (hq : H t = none) (hS : Hid S H) : SqL K (OffS S (upd H t (.lst xs))) t xs := SqL.of (off_new hq hS)
theorem lay_rawT (e : xs = ns.map V.int) (hl : H l = none) (ht : upd H l (.lst xs) t = none) (hS : Hid S H) (A : EvtsV K (OffS S H) vs evs) :
    Same H (upd (upd H l (.lst xs)) t (.tup [.str "table", .ref l])) ∧ Hid S (upd (upd H l (.lst xs)) t (.tup [.str "table", .ref l])) ∧ EvtsV K (OffS S (upd (upd H l (.lst xs)) t (.tup [.str "table", .ref l]))) (.ref t :: vs) (.rawT ns :: evs) := by
  have s1 := Same.new (o := .lst xs) hl
  have s2 := Same.new (o := .tup [.str "table", .ref l]) ht
  have h1 := hS.keep s1
  exact ⟨s1.trans s2, h1.keep s2, .cons ⟨t, l, rfl, offT ht h1, s2.off.seq (e ▸ offL hl hS)⟩ (EvtsV.keep (s1.trans s2).off A)⟩
theorem lay_rawB {k : Nat} (e : xs = ns.map V.int) (hl : H l = none) (ht : upd H l (.lst xs) t = none) (hS : Hid S H) (A : EvtsV K (OffS S H) vs evs) :
    Same H (upd (upd H l (.lst xs)) t (.tup [.str "block", .int (k : Nat), .ref l])) ∧ Hid S (upd (upd H l (.lst xs)) t (.tup [.str "block", .int (k : Nat), .ref l])) ∧ EvtsV K (OffS S (upd (upd H l (.lst xs)) t (.tup [.str "block", .int (k : Nat), .ref l]))) (.ref t :: vs) (.rawB k ns :: evs) := by
  have s1 := Same.new (o := .lst xs) hl
  have s2 := Same.new (o := .tup [.str "block", .int (k : Nat), .ref l]) ht
  have h1 := hS.keep s1
  exact ⟨s1.trans s2, h1.keep s2, .cons ⟨t, l, rfl, offT ht h1, s2.off.seq (e ▸ offL hl hS)⟩ (EvtsV.keep (s1.trans s2).off A)⟩
end
/-- the draw of events under way: C what was carried out, G what was found -/
structure EvSt (K : PySem.W.Frag) (p c C G : Addr) (n : Nat) (F : List Fd) (r : Nat) (H H' : Hp) (i : Nat) : Prop where
  pen : Pen H' p c (n + 50 * i)
  but : But p H H'
  ex : ∃ cs is xs es t, H' C = some (.lst cs) ∧ H' G = some (.lst xs) ∧ InssV K H' cs is ∧ (∀ j ∈ is, j.Ok) ∧ is.length ≤ i ∧ stO F r is = some t ∧ EvtsV K (OffS [C, G, p] H') xs es ∧ (∀ e ∈ es, e.Ok) ∧ es.length ≤ i
section
variable {K : PySem.W.Frag} {p c C G : Addr} {n N : Nat} {F : List Fd} {r i : Nat} {H H' : Hp} {cs xs : List V} {is : List Ins} {es : List Evt} {t : Tb} {v : V} {e : Evt}
theorem ev_add (hGp : G ≠ p) (hGc : G ≠ c) (hCG : C ≠ G) (hG : H G = none) (P : Pen H' p c N) (hN : N ≤ n + 50 * (i + 1)) (b : But p H H') (gC : H' C = some (.lst cs)) (gG : H' G = some (.lst xs)) (hI : InssV K H' cs is) (okI : ∀ j ∈ is, j.Ok) (lI : is.length ≤ i + 1) (st : stO F r is = some t)
    (hE : EvtsV K (OffS [C, G, p] H') xs es) (okE : ∀ e ∈ es, e.Ok) (lE : es.length ≤ i) (hv : EvtV K (OffS [C, G, p] H') v e) (oke : e.Ok) : EvSt K p c C G n F r H (upd H' G (.lst (xs ++ [v]))) (i + 1) := by
  have o := off_hid (H := H') (o := .lst (xs ++ [v])) (show G ∈ [C, G, p] by simp)
  refine ⟨(penL P hGp hGc).mono hN, b.put hG, cs, is, xs ++ [v], es ++ [e], t, by rw [upd_ne hCG]; exact gC, upd_same, hI.ts (TS.at gG nt_lst), okI, lI, st, p_app (EvtsV.keep o hE) (.cons (EvtV.keep o hv) .nil), fun x hx => ?_, by rw [List.length_append]; show es.length + 1 ≤ i + 1; omega⟩
  rcases List.mem_append.mp hx with h | h
  · exact okE x h
  · rw [List.mem_singleton.mp h]; exact oke
theorem ev_stay (P : Pen H' p c N) (hN : N ≤ n + 50 * (i + 1)) (b : But p H H') (gC : H' C = some (.lst cs)) (gG : H' G = some (.lst xs)) (hI : InssV K H' cs is) (okI : ∀ j ∈ is, j.Ok) (lI : is.length ≤ i + 1) (st : stO F r is = some t)
    (hE : EvtsV K (OffS [C, G, p] H') xs es) (okE : ∀ e ∈ es, e.Ok) (lE : es.length ≤ i) : EvSt K p c C G n F r H H' (i + 1) :=
  ⟨P.mono hN, b, cs, is, xs, es, t, gC, gG, hI, okI, lI, st, hE, okE, by omega⟩
end
theorem p_mem {α β : Type} {R : α → β → Prop} {xs : List α} {ys : List β} {x : α} (h : Paired R xs ys) (hx : x ∈ xs) : ∃ y ∈ ys, R x y := by
  obtain ⟨i, hi⟩ := List.getElem?_of_mem hx
  obtain ⟨y, hy, hr⟩ := p_at h hi
  exact ⟨y, List.mem_of_getElem? hy, hr⟩
def sp_u_events (K : PySem.W.Frag) : Sp := fun vs H Q _ => ∃ (p c : Addr) (n m : Nat) (sv : V) (F : List Fd) (r w : Nat), vs = [.ref p, sv, .int (m : Nat)] ∧ Pen H p c n ∧ n ≤ 300000 ∧ m ≤ 60 ∧ SetV K H sv F r w ∧ SetOk F r w ∧
  ∀ a xs es H', H a = none → a ≠ p → H' a = some (.lst xs) → EvtsV K (OffS [p] H') xs es → (∀ e ∈ es, e.Ok) → es.length ≤ m → Drew p c H H' (n + 50 * m) → Q (.ref a) H'
end Fld
namespace Fld
open PySem PySem.Spec PyProof.Rows L2
def sp_u_octets (K : PySem.W.Frag) : Sp := fun vs H Q _ => ∃ (v : V) (e : Evt), vs = [v] ∧ EvtV K H v e ∧ e.Ok ∧
  ∀ a L H', H a = none → H L = none → Same H H' → H' a = some (.tup (e.vs L)) → H' L = some (.lst (e.oct.map V.int)) → Q (.ref a) H'
theorem lev_off {K : PySem.W.Frag} {S : List Addr} {H H' : Hp} {a L : Addr} {e : Evt} (hS : Hid S H) (ha : H a = none) (hL : H L = none) (ga : H' a = some (.tup (e.vs L))) (gL : H' L = some (.lst (e.oct.map V.int))) : LEv K (OffS S H') (.ref a) e :=
  ⟨a, L, rfl, SqT.of (by rw [off_ne (hS.not ha)]; exact ga), SqL.of (by rw [off_ne (hS.not hL)]; exact gL)⟩
abbrev LEvs (K : PySem.W.Frag) (H : Hp) (xs : List V) (es : List Evt) : Prop := Paired (LEv K H) xs es
theorem LEvs.keep {K : PySem.W.Frag} {H H' : Hp} {xs : List V} {es : List Evt} (s : Same H H') (h : LEvs K H xs es) : LEvs K H' xs es := pmap (fun _ _ z => LEv.keep s z) h
theorem LEvs.dv {K : PySem.W.Frag} {H : Hp} : ∀ {xs : List V} {es : List Evt}, LEvs K H xs es → DvAll K H xs (es.map Evt.dat)
  | _, _, .nil => .nil
  | _, _, .cons h t => .cons h.dv (LEvs.dv t)
def sp_u_log (K : PySem.W.Frag) : Sp := fun vs H Q _ => ∃ (L : Addr) (xs : List V) (es : List Evt) (S : List Addr), vs = [.ref L] ∧ Hid S H ∧ H L = some (.lst xs) ∧ EvtsV K (OffS S H) xs es ∧ (∀ e ∈ es, e.Ok) ∧ es.length ≤ 60 ∧
  ∀ D ys H', H D = none → Same H H' → H' D = some (.lst ys) → LEvs K (OffS S H') ys es → Q (.ref D) H'
theorem book_sz {es : List Evt} (ok : ∀ e ∈ es, e.Ok) (hl : es.length ≤ 14) : Sz 4300000 3 (.list (es.map Evt.dat)) := by
  have h := sz_many (b := 305000) (k := 2) (ds := es.map Evt.dat) fun d hd => by
    obtain ⟨e, he, rfl⟩ := List.mem_map.mp hd
    exact evt_sz (ok e he)
  rw [List.length_map] at h
  exact sz_lst' h.1 (by have := h.2.1; omega) h.2.2
end Fld
namespace Fld
open PySem PySem.Spec PyProof.Rows L2
section
variable {K : PySem.W.Frag} {S : List Addr} {H : Hp} {q : Addr} {ys : List V} {es : List PyData}
theorem layT (hq : H q = none) (hS : Hid S H) (it : DvAll K (OffS S H) ys es) : Same H (upd H q (.tup ys)) ∧ Hid S (upd H q (.tup ys)) ∧ Dv K (OffS S (upd H q (.tup ys))) (.ref q) (.tuple es) := ⟨Same.new hq, hS.keep (Same.new hq), new_tup hq hS it⟩
theorem layL (hq : H q = none) (hS : Hid S H) (it : DvAll K (OffS S H) ys es) : Same H (upd H q (.lst ys)) ∧ Hid S (upd H q (.lst ys)) ∧ Dv K (OffS S (upd H q (.lst ys))) (.ref q) (.list es) := ⟨Same.new hq, hS.keep (Same.new hq), new_lst hq hS it⟩
theorem layD (hq : H q = none) (hS : Hid S H) : Same H (upd H q (.dK [])) ∧ Hid S (upd H q (.dK [])) ∧ Dv K (OffS S (upd H q (.dK []))) (.ref q) (.dict []) := ⟨Same.new hq, hS.keep (Same.new hq), new_dic hq hS⟩
end
def sp_u_bent (K : PySem.W.Frag) : Sp := fun vs H Q _ => ∃ (p c a : Addr) (n : Nat) (xs : List V) (ds : List PyData) (S : List Addr), vs = [.ref p, .ref a] ∧ Pen H p c n ∧ n ≤ 600000 ∧ p ∈ S ∧ a ∉ S ∧ Hid S H ∧ H a = some (.lst xs) ∧ DvAll K (OffS S H) xs ds ∧ Sz 4300000 3 (.list ds) ∧ ds.length ≤ 14 ∧
  ∀ (v' : V) (d' : PyData) H', Dv K (OffS S H') v' d' → Sz 9000000 5 d' → Drew p c H H' (n + 10) → Q v' H'
end Fld
namespace Fld
open PySem PySem.Spec PyProof.Rows L2
section
variable {K : PySem.W.Frag} {S : List Addr} {H : Hp} {q a b c p : Addr} {xs ys : List V} {ds es : List PyData} {n : Nat} {cc : Addr}
/-- a list laid, its items kept -/
theorem layM (hq : H q = none) (hS : Hid S H) (it : DvAll K (OffS S H) ys es) : Same H (upd H q (.lst ys)) ∧ Hid S (upd H q (.lst ys)) ∧ upd H q (.lst ys) q = some (.lst ys) ∧ DvAll K (OffS S (upd H q (.lst ys))) ys es :=
  ⟨Same.new hq, hS.keep (Same.new hq), upd_same, it.keep (Same.new hq).off⟩
/-- a sum of two lists laid -/
theorem layS (A : DvAll K (OffS S H) xs ds) (hb : H b = none) (hS : Hid S H) (it : DvAll K (OffS S H) ys es) (hc : upd H b (.lst ys) c = none) :
    Same H (upd (upd H b (.lst ys)) c (.lst (xs ++ ys))) ∧ Hid S (upd (upd H b (.lst ys)) c (.lst (xs ++ ys))) ∧ upd (upd H b (.lst ys)) c (.lst (xs ++ ys)) c = some (.lst (xs ++ ys)) ∧ DvAll K (OffS S (upd (upd H b (.lst ys)) c (.lst (xs ++ ys)))) (xs ++ ys) (ds ++ es) := by
  have s := (Same.new (o := .lst ys) hb).trans (Same.new (o := .lst (xs ++ ys)) hc)
  exact ⟨s, hS.keep s, upd_same, (A.app it).keep s.off⟩
/-- the same; the sum is hidden from here on, as it is to turn -/
theorem layH (A : DvAll K (OffS S H) xs ds) (hb : H b = none) (hS : Hid S H) (it : DvAll K (OffS S H) ys es) (hc : upd H b (.lst ys) c = none) :
    Same H (upd (upd H b (.lst ys)) c (.lst (xs ++ ys))) ∧ Hid (c :: S) (upd (upd H b (.lst ys)) c (.lst (xs ++ ys))) ∧ upd (upd H b (.lst ys)) c (.lst (xs ++ ys)) c = some (.lst (xs ++ ys)) ∧
      Same (OffS S H) (OffS (c :: S) (upd (upd H b (.lst ys)) c (.lst (xs ++ ys)))) ∧ DvAll K (OffS (c :: S) (upd (upd H b (.lst ys)) c (.lst (xs ++ ys)))) (xs ++ ys) (ds ++ es) := by
  have s1 := Same.new (o := .lst ys) hb
  have s2 := Same.new (o := .lst (xs ++ ys)) hc
  have o := (s1.off (S := S)).trans ((off_more hc).trans (s2.off (S := c :: S)))
  exact ⟨s1.trans s2, (hS.keep (s1.trans s2)).cons (by rw [upd_same]; exact fun z => nomatch z), upd_same, o, (A.app it).keep o⟩
theorem Hid.less (h : Hid (c :: S) H) : Hid S H := fun b hb => h b (List.mem_cons_of_mem _ hb)
end
end Fld
namespace Fld
open PySem PySem.Spec PyProof.Rows L2
/-- a list of what is drawn from, under way at L -/
def SomeI (K : PySem.W.Frag) (p c : Addr) (S : List Addr) (H H' : Hp) (N m : Nat) (L : Addr) : Prop := Drew p c H H' N ∧ L ≠ p ∧ L ≠ c ∧ H L = none ∧
  ∃ zs des, H' L = some (.lst zs) ∧ Hid (L :: S) H' ∧ DvAll K (OffS (L :: S) H') zs des ∧ (∀ d ∈ des, Sz 6000 3 d) ∧ zs.length = m
theorem sz_const {d : PyData} (h1 : okV d = true) (h2 : wV d ≤ 6000) (h3 : d.depth ≤ 3) : Sz 6000 3 d := ⟨h1, h2, h3⟩
section
variable {K : PySem.W.Frag} {S : List Addr} {H H0 : Hp} {q b c p cc L : Addr} {xs ys : List V} {ds es : List PyData} {n N m : Nat}
theorem someI_new (D : Drew p cc H0 H N) (hS : Hid S H) (hq : H q = none) (it : DvAll K (OffS S H) ys es) (z : ∀ d ∈ es, Sz 6000 3 d) : SomeI K p cc S H0 (upd H q (.lst ys)) N ys.length q := by
  have s := Same.new (o := .lst ys) hq
  have hp := Ne.symm (D.pen.ne hq)
  exact ⟨D.keep s, hp, Ne.symm (D.pen.nec hq), D.but.none hp hq, ys, es, upd_same, (hS.keep s).cons (by rw [upd_same]; exact fun z => nomatch z), it.keep ((off_more hq).trans (s.off (S := q :: S))), z, rfl⟩
theorem someI_sum (A : DvAll K (OffS S H) xs ds) (zA : ∀ d ∈ ds, Sz 6000 3 d) (hm : xs.length = m) (D : Drew p cc H0 H N) (hb : H b = none) (hS : Hid S H) (it : DvAll K (OffS S H) ys es) (z : ∀ d ∈ es, Sz 6000 3 d) (hc : upd H b (.lst ys) c = none) :
    SomeI K p cc S H0 (upd (upd H b (.lst ys)) c (.lst (xs ++ ys))) N (m + ys.length) c := by
  have s := Same.new (o := .lst ys) hb
  have h := someI_new (K := K) (q := c) (ys := xs ++ ys) (es := ds ++ es) (D.keep s) (hS.keep s) hc ((A.app it).keep s.off) fun d hd => by
    rcases List.mem_append.mp hd with h | h
    · exact zA d h
    · exact z d h
  rw [List.length_append, hm] at h
  exact h
end
end Fld
namespace Fld
open PySem PySem.Spec PyProof.Rows L2
theorem sz_od {k od : PyData} (zoc : Sz 3200 2 od) (h1 : okV k = true) (h2 : wV k ≤ 92) (h3 : k.depth ≤ 0) : Sz 6000 3 (.tuple [k, od]) :=
  sz_tup' (k := 2) (by rw [okVAll, okVAll, okVAll, h1, zoc.ok]; rfl) (by rw [wVAll, wVAll, wVAll]; have := zoc.w; omega) (by rw [PyData.depthAll, PyData.depthAll, PyData.depthAll]; have := zoc.dp; omega)
theorem sz_3 {a b d : PyData} {x y z : Nat} (ha : Sz x 0 a) (hb : Sz y 0 b) (hd : Sz z 2 d) (hw : x + y + z ≤ 5900) : Sz 6000 3 (.tuple [a, b, d]) :=
  sz_tup' (k := 2) (by rw [okVAll, okVAll, okVAll, okVAll, ha.ok, hb.ok, hd.ok]; rfl) (by rw [wVAll, wVAll, wVAll, wVAll]; have := ha.w; have := hb.w; have := hd.w; omega) (by rw [PyData.depthAll, PyData.depthAll, PyData.depthAll, PyData.depthAll]; have := ha.dp; have := hb.dp; have := hd.dp; omega)
theorem sz_bkS : Sz 52 0 (.str "block") := ⟨by decide, by decide, by decide⟩
theorem sz_od3 {od : PyData} (zoc : Sz 3200 2 od) : Sz 6000 3 (.tuple [.str "block", .int 3, od]) := sz_3 sz_bkS (sz_int (i := 3)) zoc (by decide)
theorem sz_bk {k : Nat} (hk : k ≤ 9999) : Sz 6000 3 (.tuple [.str "block", .int (k : Nat), .list [.int 1]]) :=
  sz_3 (z := 1016) sz_bkS (sz_int (i := ((k : Nat) : Int)) (Nat.lt_of_le_of_lt (show k ≤ 9999 from hk) (by decide +kernel))) ⟨by decide +kernel, by decide, by decide⟩ (by decide)
end Fld
namespace Fld
open PySem PySem.Spec PyProof.Rows L2
def lstLe : PyData → Bool
  | .list ds => decide (ds.length ≤ 40)
  | _ => false
theorem lstLe_no {d : PyData} (e : subT (tyD d) "list" = false) : lstLe d = false := by cases d <;> first | rfl | cases e
theorem dLog_le {d : PyData} (e : lstLe d = false) : dLog d = false := by
  cases d <;> first | rfl | skip
  rename_i ds
  show (decide (ds.length ≤ 40) && _) = false
  rw [show decide (ds.length ≤ 40) = false from e]; rfl
theorem lstLe_of {d : PyData} (e : lstLe d = true) : ∃ ds, d = .list ds ∧ ds.length ≤ 40 := by
  cases d <;> first | cases e | skip
  rename_i ds
  exact ⟨ds, rfl, of_decide_eq_true e⟩
end Fld
namespace Fld
open PySem PySem.Spec PyProof.Rows L2
theorem dT_ty {K : PySem.W.Frag} {H : Hp} {a : Addr} {kvs : List (List Key × V)} (h : H a = some (.dT kvs)) : TyX K H (.ref a) (.type "dict") := .base (.dT h)
theorem dict_kit {K : PySem.W.Frag} {b : String} (hb : clsNames.contains b = true := by decide) : PySem.W.kitOne K (.type "dict") (.type b) = some (subT "dict" b) := by
  have h := List.all_eq_true.mp kitAll "dict" (by decide)
  have h2 := List.all_eq_true.mp h b (List.contains_iff_mem.mp hb)
  exact kit_ty (eq_of_beq h2)
theorem fds_shapedL {F : List Fd} (h : ∀ f ∈ F, FdOk f) (hl : F.length ≤ 40) : SeqAt.shaped (.list (F.map fdat)) = true := by
  have z := (sz_fds h hl).dp
  have z' : PyData.depth (.list (F.map fdat)) ≤ 2 := z
  show (PyData.canLay0 (.list (F.map fdat)) && decide (PyData.depth (.list (F.map fdat)) ≤ 64)) = true
  rw [decide_eq_true (by omega), PyData.canLay0, lay_fds h]
  rfl
theorem many_of {x : V} (h : x ∈ [V.int 0, .int 1, .int 2, .int 3, .int 5, .int 16]) : ∃ k : Nat, x = .int (k : Nat) ∧ k ≤ 16 := by
  simp only [List.mem_cons, List.not_mem_nil, or_false] at h
  rcases h with h | h | h | h | h | h
  · exact ⟨0, h, by decide⟩
  · exact ⟨1, h, by decide⟩
  · exact ⟨2, h, by decide⟩
  · exact ⟨3, h, by decide⟩
  · exact ⟨5, h, by decide⟩
  · exact ⟨16, h, by decide⟩
def sp_is_pair (K : PySem.W.Frag) : Sp := fun vs H Q _ => ∃ (b : Addr) (p : Nat × Nat), vs = [.ref b] ∧ SqT K H b [.int (p.1 : Nat), .int (p.2 : Nat)] ∧ p.1 ≤ 9999 ∧ p.2 ≤ 9999 ∧ Q (.bl true) H
def sp_is_just (K : PySem.W.Frag) : Sp := fun vs H Q _ => ∃ (n : Nat), vs = [.int (n : Nat), .int (n : Nat)] ∧ Q (.bl true) H
/-- lengths that are the lengths -/
def sp_are_lengths (K : PySem.W.Frag) : Sp := fun vs H Q _ => ∃ (sv : V) (D u a : Addr) (F : List Fd) (r w : Nat) (es : Ent) (xs : List V) (fs : List Fd), vs = [sv, .ref D, .ref u, .ref a] ∧ SetV K H sv F r w ∧ SetOk F r w ∧ EntV K H D es ∧ EsOk 24 es ∧ SqT K H u xs ∧ FdsV K H xs fs ∧ (∀ f ∈ fs, FdOk f) ∧ fs.length ≤ 16 ∧ LenD F es fs (allK es) H a ∧
  ∀ H', Same H H' → Q (.bl true) H'
/-- fields that are drawn -/
def sp_saying (K : PySem.W.Frag) : Sp := fun vs H Q _ => ∃ (p c t D : Addr) (n : Nat) (F : List Fd) (es : Ent), vs = [.ref p, .ref t, .ref D] ∧ Pen H p c n ∧ n ≤ 600000 ∧ TabV K H t D F es ∧ F.length ≤ 12 ∧ (∀ f ∈ F, FdOk f) ∧ EsOk 24 es ∧
  ∀ u xs fs H', SqT K H' u xs → FdsV K H' xs fs → (∀ f ∈ fs, FdOk f) → fs.length ≤ 16 → Drew p c H H' (n + 8000) → Q (.ref u) H'
end Fld
namespace Fld
open PySem PySem.Spec PyProof.Rows L2
def sp_block_right (K : PySem.W.Frag) : Sp := fun vs H Q _ => ∃ (p c D : Addr) (n : Nat) (sv : V) (F : List Fd) (r w : Nat) (es : Ent), vs = [.ref p, sv, .ref D] ∧ Pen H p c n ∧ n ≤ 500000 ∧ SetV K H sv F r w ∧ SetOk F r w ∧ EntV K H D es ∧ EsOk 24 es ∧
  ∀ H', Drew p c H H' (n + 9000) → Q (.bl true) H'
/-- written out -/
def outB (fs : List Fd) : Blk := ⟨0, 0, fs.map fun f => .out f.1 f.2⟩
theorem outB_ok {fs : List Fd} (h : ∀ f ∈ fs, FdOk f) (hl : fs.length ≤ 16) : (outB fs).Ok := by
  refine ⟨by show 0 ≤ 9999; omega, Nat.le_refl _, by show (List.map _ fs).length ≤ 16; rw [List.length_map]; exact hl, fun l m => ?_⟩
  obtain ⟨f, hf, rfl⟩ := List.mem_map.mp m
  exact ⟨(h f hf).n, (h f hf).v⟩
theorem fds_eqvAll : ∀ fs : List Fd, PyData.eqvAll (fs.map fdat) (fs.map fdat) = true
  | [] => by rw [List.map_nil, PyData.eqvAll]
  | f :: fs => by rw [List.map_cons, PyData.eqvAll, fd_eqv, decide_eq_true rfl, fds_eqvAll fs]; rfl
theorem fds_eqv (fs : List Fd) : PyData.eqv (.tuple (fs.map fdat)) (.tuple (fs.map fdat)) = true := by rw [PyData.eqv]; exact fds_eqvAll fs
theorem sum_le {α : Type} (f g : α → Nat) : ∀ {l : List α}, (∀ x ∈ l, f x ≤ g x) → (l.map f).sum ≤ (l.map g).sum
  | [], _ => Nat.le_refl _
  | x :: l, h => by
    rw [List.map_cons, List.map_cons, List.sum_cons, List.sum_cons]
    have := h x (List.mem_cons_self ..)
    have := sum_le f g fun y m => h y (List.mem_cons_of_mem _ m)
    omega
theorem lnsOct_len (b : Nat) : ∀ ls : List Ln, (lnsOct b ls).length = (ls.map fun l => (l.oct b).length).sum
  | [] => rfl
  | l :: ls => by
    have e : lnsOct b (l :: ls) = l.oct b ++ lnsOct b ls := rfl
    rw [e, List.length_append, lnsOct_len b ls, List.map_cons, List.sum_cons]
theorem zero_in (es : Ent) : ((0 : Nat), (0 : Nat)) ∈ allK es := keys_in.mpr ⟨List.mem_cons_self .., by show min 0 0 ≤ 0; omega, Nat.le_refl _⟩
theorem le_out (F : List Fd) (es : Ent) (fs : List Fd) : lenN F es fs 0 0 ≤ (outB fs).oct.length := by
  show headN 0 0 + (fs.map fun f => mn F es f 0 0).sum ≤ ((numOct 0 8 0 ++ numOct (0 - 0) 8 0) ++ lnsOct 0 (fs.map fun f => .out f.1 f.2)).length
  rw [List.length_append, List.length_append, lnsOct_len, List.map_map]
  have := sum_le (fun f => mn F es f 0 0) ((fun l : Ln => (l.oct 0).length) ∘ fun f : Fd => Ln.out f.1 f.2) (l := fs) fun f _ => (mn_spec F es f 0 0).2 _ (List.mem_cons_self ..) (Nat.zero_le _)
  unfold headN
  omega
theorem res_le {F : List Fd} {es : Ent} {fs : List Fd} {n : Nat} {oc : List Int} (h : ShRes F es fs n oc) : n ≤ (outB fs).oct.length := Nat.le_trans (h.min _ (zero_in es)) (le_out F es fs)
end Fld
/-! sorted(d), the keys pairs of ints -/
namespace Fld
open PySem PySem.Spec PyProof.Rows L2
def pairLe (p q : Nat × Nat) : Prop := p.1 < q.1 ∨ (p.1 = q.1 ∧ p.2 ≤ q.2)
/-- keys in a list: the dict's own tuples -/
def KeysV (H : Hp) (ys : List V) (qs : List (Nat × Nat)) : Prop := Paired (fun y q => ∃ t, y = V.ref t ∧ H t = some (.tup ((lenK q).map kV))) ys qs
section
variable {X : Cx}
theorem call_sortedDT (hc : X.calm = true) : CallR X (.builtin "sorted") (fun xs H Q => ∃ (a : Addr) (kvs : List (List Key × V)) (ps : List (Nat × Nat)), xs = [V.ref a] ∧ L2.Rd H a (.dT kvs) ∧ kvs.map (·.1) = ps.map lenK ∧
    ∀ (ys : List V) (qs : List (Nat × Nat)) (p : Addr), qs.Perm ps → qs.Pairwise pairLe → KeysV H ys qs → H p = none → Q (.ref p) (upd H p (.lst ys))) := by
  intro pins s σ H xs us Q I r q
  obtain ⟨a, kvs, ps, rfl, hd, hks, q⟩ := q
  obtain ⟨u, rfl, rx⟩ := r.one
  cases rx
  obtain ⟨z, hs, ks, pr, o, es, ep, ho, hx, hdt, he, hn⟩ := (show ObjOk X.prog X.w H s.heap a (.dT kvs) from hd.ok I.hok)
  have l1 : es.size = ks.length := size_of_entries he
  have l2 : kvs.length = ks.length := Paired.length pr
  have l3 : kvs.length = ps.length := by have := congrArg List.length hks; rw [List.length_map, List.length_map] at this; exact this
  refine Calls.call_function_entry PyProof.Rows.kind_sorted PyProof.Rows.plain_sorted PyProof.Rows.entry_sorted (PyProof.Rows.args_sorted1 _) ?_
  unfold Builtin.«sorted»
  refine wpAny_bind (m := checkCount "sorted" 1 1 _) (wpAny_pure ?_)
  refine wpAny_bind (PySem.W.kdu_collect (A := X.A.in1) (kdl_raw hs hx hdt) (I.ok.hd hc) ho (by omega) fun h' tk acc hk it => ?_)
  have ea : acc.toList = ks.map fun x => Value.ref x.2.1 := by
    have hl : acc.toList.length = ks.length := by rw [Array.length_toList, it.1]; exact l1
    apply List.ext_getElem?
    intro j
    rw [List.getElem?_map]
    cases hj : acc.toList[j]? with
    | none =>
      have h1 := List.getElem?_eq_none_iff.mp hj
      rw [List.getElem?_eq_none (by omega)]
      rfl
    | some v =>
      obtain ⟨en, hen, hv⟩ := it.2 j v (by rw [← Array.getElem?_toList]; exact hj)
      have qe := entry_at he j
      rw [hen] at qe
      cases hb : ks[j]? with
      | none =>
        rw [hb] at qe
        exact nomatch (show some en = none from qe)
      | some b =>
        rw [hb] at qe
        have e2 : en = entryOfKey (tupleKind (mixKind X.prog X.w)) b := Option.some.inj qe
        rw [hv, e2]
        rfl
  -- each key
  have hkey : ∀ v ∈ acc.toList, ∃ (t : Addr) (p : Nat × Nat), v = Value.ref t ∧ H t = some (.tup ((lenK p).map kV)) ∧ p ∈ ps := by
    intro v m
    rw [ea] at m
    obtain ⟨x, hx2, rfl⟩ := List.mem_map.mp m
    obtain ⟨j, hj⟩ := List.getElem?_of_mem hx2
    obtain ⟨y, hy, r1, r2, r3⟩ := DX.pget pr hj
    have h1 : (kvs.map (·.1))[j]? = some y.1 := by rw [List.getElem?_map, hy]; rfl
    rw [hks, List.getElem?_map] at h1
    obtain ⟨p, hp, hpk⟩ := Option.map_eq_some_iff.mp h1
    exact ⟨x.2.1, p, rfl, by rw [hpk]; exact r2, List.mem_of_getElem? hp⟩
  have hex : ∀ v : Value, ∃ p : Nat × Nat, (∃ t p', v = Value.ref t ∧ H t = some (.tup ((lenK p').map kV))) → ∃ t, v = Value.ref t ∧ H t = some (.tup ((lenK p).map kV)) := fun v => by
    by_cases e : ∃ t p', v = Value.ref t ∧ H t = some (.tup ((lenK p').map kV))
    · obtain ⟨t, p', e1, e2⟩ := e
      exact ⟨p', fun _ => ⟨t, e1, e2⟩⟩
    · exact ⟨(0, 0), fun z => absurd z e⟩
  let g : Value → Nat × Nat := fun v => (hex v).choose
  have hg : ∀ t p, H t = some (.tup ((lenK p).map kV)) → g (.ref t) = p := fun t p h => by
    obtain ⟨t', e1, e2⟩ := (hex (.ref t)).choose_spec ⟨t, p, rfl, h⟩
    have e3 : t = t' := Value.ref.inj e1
    subst e3
    rw [h] at e2
    have e4 : (lenK p).map kV = (lenK (g (.ref t))).map kV := HO.tup.inj (Option.some.inj e2)
    have e5 : [V.int (p.1 : Nat), V.int (p.2 : Nat)] = [V.int ((g (.ref t)).1 : Nat), V.int ((g (.ref t)).2 : Nat)] := e4
    simp only [List.cons.injEq, V.int.injEq, Int.natCast_inj, and_true] at e5
    exact (Prod.ext e5.1 e5.2).symm
  have I1 : Inv X pins σ H { s with heap := h', toks := tk } := I.kept hk
  have hal : acc.toList.length ≤ sizeLine := by rw [ea, List.length_map]; omega
  have hpair : ∀ v ∈ acc.toList, Srt.IsPair h' v ((g v).1 : Nat) ((g v).2 : Nat) := fun v m => by
    obtain ⟨t, p, rfl, ht, _⟩ := hkey v m
    rw [hg t p ht]
    obtain ⟨_, its, r2, ot, hot, hct, n, hdt2⟩ := I1.hok _ _ ht
    obtain ⟨u1, u2, rfl, ri, rj⟩ := vals2 r2
    obtain ⟨t1, rfl⟩ := ri
    obtain ⟨t2, rfl⟩ := rj
    exact ⟨t, ot, t1, t2, n, rfl, hot, hct, hdt2⟩
  refine wpAny_bind (wpAny_newList ?_ hal)
  have hoL : (h'.push (seqObj "list" acc.toList.toArray 0)).get? h'.objs.size = some (seqObj "list" acc.toList.toArray 0) := Heap.get?_push_size _ rfl
  show wpAny _ _ _ _ _ { s with heap := h'.push (seqObj "list" acc.toList.toArray 0), toks := tk }
  refine wpAny_bind (wpAny_holding (wpAny_call_entry PyProof.Rows.slot_list_sort ⟨_, hoL, rfl⟩ PyProof.Rows.entry_list_sort
    (SrtO.list_sort_ord (s := { s with heap := h'.push (seqObj "list" acc.toList.toArray 0), toks := tk }) (ltv := fun v u => SrtO.lexB (((g v).1 : Nat), ((g v).2 : Nat)) (((g u).1 : Nat), ((g u).2 : Nat))) (SrtO.swo_lex fun v => (((g v).1 : Nat), ((g v).2 : Nat))) hoL hal (fun h2 => SrtO.pairs_sortableO (k := fun v => (((g v).1 : Nat), ((g v).2 : Nat))) (by omega) (fun v m => (hpair v m).keeps fun b o e _ => Heap.get?_push_of_some _ e) fun o e => ?_) fun out h1 h2 => ⟨_, rfl, ?_⟩) (PyProof.Rows.args_list_sort _)))
  · have e' : some o = some (seqObj "list" acc.toList.toArray 0) := e.symm.trans hoL
    cases e'
    intro c
    exact absurd (Value.type.inj c) (by decide)
  · obtain ⟨e', he'⟩ := PyProof.Rows.sortedHeap_at (vs := acc.toList) (out := out.toArray) hoL
    have hout : ∀ v ∈ out, ∃ t, v = Value.ref t ∧ H t = some (.tup ((lenK (g v)).map kV)) := fun v m => by
      obtain ⟨t, p, rfl, ht, _⟩ := hkey v (h2.perm.mem_iff.mp m)
      exact ⟨t, rfl, by rw [hg t p ht]; exact ht⟩
    have hlen : (out.map backV).length ≤ sizeLine := by rw [List.length_map, h2.perm.length_eq]; exact hal
    have hacc : acc.toList.map g = ps := by
      rw [ea, List.map_map]
      apply List.ext_getElem?
      intro j
      rw [List.getElem?_map]
      cases hj : ks[j]? with
      | none =>
        have := List.getElem?_eq_none_iff.mp hj
        rw [List.getElem?_eq_none (by omega)]
        rfl
      | some x =>
        obtain ⟨y, hy, r1, r2, r3⟩ := DX.pget pr hj
        have h1 : (kvs.map (·.1))[j]? = some y.1 := by rw [List.getElem?_map, hy]; rfl
        rw [hks, List.getElem?_map] at h1
        obtain ⟨p, hp, hpk⟩ := Option.map_eq_some_iff.mp h1
        rw [hp]
        show some (g (.ref x.2.1)) = some p
        rw [hg x.2.1 p (by rw [hpk]; exact r2)]
    have hperm : (out.map g).Perm ps := by rw [← hacc]; exact h2.perm.map g
    have hsrt : (out.map g).Pairwise pairLe := List.pairwise_map.mpr (h1.imp fun h => by
      have := SrtO.lexB_no.mp h
      unfold pairLe
      dsimp only at this
      omega)
    have hKV : KeysV H (out.map backV) (out.map g) := by
      have : ∀ l : List Value, (∀ v ∈ l, ∃ t, v = Value.ref t ∧ H t = some (.tup ((lenK (g v)).map kV))) → KeysV H (l.map backV) (l.map g) := by
        intro l
        induction l with
        | nil => intro _; exact .nil
        | cons v l ih =>
          intro h
          obtain ⟨t, rfl, ht⟩ := h v (List.mem_cons_self ..)
          exact .cons ⟨t, rfl, ht⟩ (ih fun x m => h x (List.mem_cons_of_mem _ m))
      exact this out hout
    refine wpAny_pure ⟨_, rfl, .ref h'.objs.size, upd H h'.objs.size (.lst (out.map backV)), I1.laid (t' := tk) (fun b u e => ?_) (Nat.le_refl _)
      (show ObjOk X.prog X.w _ _ _ (.lst (out.map backV)) from ⟨hlen, out, e', vals_back fun u m => let ⟨t, e, _⟩ := hout u m; ⟨t, e⟩, he'⟩), rfl, q _ _ _ hperm hsrt hKV (I1.hok.fresh (Nat.le_refl _))⟩
    have hb : b < h'.objs.size := Heap.lt_size e
    rw [PyProof.Rows.sortedHeap_old (Nat.ne_of_lt hb) (by rw [size_push']; exact Nat.lt_succ_of_lt hb)]
    exact Heap.get?_push_of_some _ e
end
end Fld
/-! == of two dicts with the same pairs, the keys tuples -/
namespace Fld
open PySem PySem.Spec PyProof.Rows L2
section
variable {prog : Program} {w : World} {K : Type} [DecidableEq K] {knd : HeapKind prog w K} {A : Around} {E : Value → Shared → Prop} {s : Shared}
theorem samePairsH {nm : String} {a b : Addr} {ka kb : List (K × Addr × Value)} {Q : Bool → Shared → Prop} (hu : knd.room A) (ha : (a == sysModules) = false) (hb : (b == sysModules) = false)
    (da : s.heap.DictOfH knd a ka) (db : s.heap.DictOfH knd b kb) (hl : ka.length = kb.length) (hits : ∀ x ∈ ka, ∃ (j : Nat) (y : Addr) (z : Value), kb[j]? = some (x.1, y, z) ∧ SeqAt.EqAt A s x.2.2 z true) (h : Q true s) :
    wpAny (model prog w) A (Builtin.Dict.samePairs nm a b) Q E s := by
  obtain ⟨oa, es, ep, hoa, _, hda, hea, hia, hna⟩ := da
  obtain ⟨ob, es', ep', hob, _, hdb, heb, hib, hnb⟩ := db
  have hla : es.size = ka.length := size_of_entries hea
  have hlb : es'.size = kb.length := size_of_entries heb
  unfold Builtin.Dict.samePairs Builtin.Dict.showsAll
  rw [if_neg (show ¬ (a == sysModules) = true by rw [ha]; exact Bool.false_ne_true), if_neg (show ¬ (b == sysModules) = true by rw [hb]; exact Bool.false_ne_true)]
  refine wpAny_bind (wpAny_pure (wpAny_bind (wpAny_pure ?_)))
  refine wpAny_bind (wpAny_dictEntries hoa hda ?_)
  dsimp only
  refine wpAny_bind (wpAny_dictEntries hob hdb ?_)
  have hsz : es.size = es'.size := by omega
  rw [if_neg (by rw [hsz]; simp)]
  refine wpAny_bind (wpAny_dictEpoch hoa hda ?_)
  refine wpAny_bind ?_
  rw [Std.Legacy.Range.forIn_eq_forIn_range']
  simp only [Std.Legacy.Range.size, Nat.sub_zero, Nat.add_sub_cancel, Nat.div_one]
  refine wpAny_forIn_list _
    (fun rest q s' => s' = s ∧ q = (none, ()) ∧ ∃ i, rest = List.range' i (es.size - i) ∧ i ≤ es.size)
    _ ?_ ?_ _ _ ⟨rfl, rfl, 0, by simp, Nat.zero_le _⟩
  · rintro x rest q s' ⟨rfl, rfl, i, hr, hi⟩
    have hlt : i < es.size := by
      rcases Nat.lt_or_ge i es.size with h | h
      · exact h
      · rw [Nat.sub_eq_zero_of_le h] at hr; simp at hr
    obtain ⟨rfl, hrest⟩ : x = i ∧ rest = List.range' (i + 1) (es.size - (i + 1)) := by
      have e : es.size - i = (es.size - (i + 1)) + 1 := by omega
      rw [e, List.range'_succ] at hr
      injection hr with h1 h2
      exact ⟨h1, h2⟩
    refine wpAny_bind (wpAny_dictEntries hoa hda ?_)
    have hlt' : x < ka.length := by omega
    have hx := entry_at hea x
    rw [List.getElem?_eq_getElem hlt'] at hx
    have hx' : es[x]? = some (entryOfKey knd ka[x]) := hx
    rw [hx']
    obtain ⟨j, y, z, hj, heq⟩ := hits ka[x] (List.getElem_mem hlt')
    show wpAny _ _ (holding [Value.ref ka[x].2.1, ka[x].2.2] _ >>= _) _ _ _
    refine wpAny_bind (wpAny_holding (wpAny_bind (wpAny_dictFind_heap hu (hia _ (List.getElem_mem hlt')) hob hdb heb hib hnb (fun hno => absurd hj (hno j (y, z))) fun j' p hj' => ?_)))
    have ej : j' = j := idxH_unique hnb hj' hj
    subst ej
    rw [hj] at hj'
    have ep2 : p = (y, z) := (Prod.mk.inj (Option.some.inj hj')).2.symm
    subst ep2
    refine wpAny_bind (wpAny_dictEntries hob hdb ?_)
    have hy := entry_at heb j'
    rw [hj] at hy
    have hy' : es'[j']? = some (entryOfKey knd (ka[x].1, y, z)) := hy
    rw [hy']
    refine wpAny_holding (heq prog w _ _ ?_)
    show wpAny _ _ (if (!true) = true then _ else _) _ _ _
    rw [if_neg (by decide)]
    refine wpAny_bind (wpAny_dictEpoch hoa hda ?_)
    rw [if_neg (by simp)]
    exact wpAny_pure ⟨rfl, rfl, x + 1, hrest, hlt⟩
  · rintro q s' ⟨rfl, rfl, i, hr, hi⟩
    refine wpAny_pure ?_
    exact h
theorem eqH {a b : Addr} {ka kb : List (K × Addr × Value)} {Q : Value → Shared → Prop} (hu : knd.room A.in1) (hu2 : A.units < cLine) (ha : (a == sysModules) = false) (hb : (b == sysModules) = false)
    (da : s.heap.DictOfH knd a ka) (db : s.heap.DictOfH knd b kb) (hl : ka.length = kb.length) (hits : ∀ x ∈ ka, ∃ (j : Nat) (y : Addr) (z : Value), kb[j]? = some (x.1, y, z) ∧ SeqAt.EqAt A.in1 s x.2.2 z true) (h : Q (.bool true) s) :
    wpAny (model prog w) A (compareOp .Eq (.ref a) (.ref b)) Q E s := by
  refine wpAny_richCompare_same_room (op := .Eq) da.typeIs db.typeIs PySem.F.slot_dict_eq (wpAny_call_entry PySem.F.slot_dict_eq da.typeIs PySem.F.entry_dict_eq ?_ (PySem.F.args_dict_eq_2 _ _)) hu2
  show wpAny _ _ (Builtin.Dict.dictSlotArgs "__eq__" ⟨[.ref a, .ref b], []⟩ >>= _) _ _ s
  refine wpAny_bind ?_
  unfold Builtin.Dict.dictSlotArgs
  refine wpAny_bind (wpAny_notOrdered_dict da.typeIs ?_)
  show wpAny _ _ (pure (Value.ref a, Value.ref b)) _ _ s
  refine wpAny_pure ?_
  refine wpAny_bind (wpAny_isInstance (T := "dict") db.typeIs PySem.F.sub_dict_dict ?_)
  simp only [Bool.not_true, Bool.false_eq_true, if_false]
  refine wpAny_bind (wpAny_pure (wpAny_bind (wpAny_pure ?_)))
  refine wpAny_bind (samePairsH hu ha hb da db hl hits ?_)
  refine wpAny_pure ⟨_, rfl, ?_, ?_⟩
  · exact fun x => nomatch x
  · exact h
theorem neH {a b : Addr} {ka kb : List (K × Addr × Value)} {Q : Value → Shared → Prop} (hu : knd.room A.in1) (hu2 : A.units < cLine) (ha : (a == sysModules) = false) (hb : (b == sysModules) = false)
    (da : s.heap.DictOfH knd a ka) (db : s.heap.DictOfH knd b kb) (hl : ka.length = kb.length) (hits : ∀ x ∈ ka, ∃ (j : Nat) (y : Addr) (z : Value), kb[j]? = some (x.1, y, z) ∧ SeqAt.EqAt A.in1 s x.2.2 z true) (h : Q (.bool false) s) :
    wpAny (model prog w) A (compareOp .NotEq (.ref a) (.ref b)) Q E s := by
  refine wpAny_richCompare_same_room (op := .NotEq) da.typeIs db.typeIs PySem.F.slot_dict_ne (wpAny_call_entry PySem.F.slot_dict_ne da.typeIs PySem.F.entry_dict_ne ?_ (PySem.F.args_dict_ne_2 _ _)) hu2
  show wpAny _ _ (Builtin.Dict.dictSlotArgs "__ne__" ⟨[.ref a, .ref b], []⟩ >>= _) _ _ s
  refine wpAny_bind ?_
  unfold Builtin.Dict.dictSlotArgs
  refine wpAny_bind (wpAny_notOrdered_dict da.typeIs ?_)
  show wpAny _ _ (pure (Value.ref a, Value.ref b)) _ _ s
  refine wpAny_pure ?_
  refine wpAny_bind (wpAny_isInstance (T := "dict") db.typeIs PySem.F.sub_dict_dict ?_)
  simp only [Bool.not_true, Bool.false_eq_true, if_false]
  refine wpAny_bind (wpAny_pure (wpAny_bind (wpAny_pure ?_)))
  refine wpAny_bind (samePairsH hu ha hb da db hl hits ?_)
  refine wpAny_pure ⟨_, rfl, ?_, ?_⟩
  · exact fun x => nomatch x
  · exact h
end
theorem items_any {P P' : Program} {w w' : World} : ∀ {ks : List Key} {vs : List Value}, ItemsAre (mixKind P w) ks vs → ItemsAre (mixKind P' w') ks vs
  | _, _, .nil => .nil
  | _, _, .cons h t => .cons h (items_any t)
/-- pairs of ints as keys: nothing of the world is in their dict -/
theorem dictH_any {P P' : Program} {w w' : World} {h : Heap} {a : Addr} {xs : List (List Key × Addr × Value)} (hk : ∀ x ∈ xs, ∃ p : Nat × Nat, x.1 = lenK p) (d : h.DictOfH (tupleKind (mixKind P w)) a xs) : h.DictOfH (tupleKind (mixKind P' w')) a xs := by
  obtain ⟨o, es, ep, h1, h2, h3, h4, h5, h6⟩ := d
  refine ⟨o, es, ep, h1, h2, h3, ?_, fun x m => ?_, h6⟩
  · rw [h4]
    refine List.map_congr_left fun x m => ?_
    obtain ⟨p, e⟩ := hk x m
    unfold entryOfKey
    rw [e]
    rfl
  · obtain ⟨o', its, n, e1, e2, e3, e4⟩ := (show IsTupleKey (mixKind P w) h x.1 x.2.1 from h5 x m)
    exact (show IsTupleKey (mixKind P' w') h x.1 x.2.1 from ⟨o', its, n, e1, e2, e3, items_any e4⟩)
end Fld
/-! list(d.items()); != of what shortest tells; {(a, b): c} -/
namespace Fld
open PySem PySem.Spec PyProof.Rows L2
section
variable {X : Cx}
theorem dk_raw {P : Program} {w : World} {H : Hp} {h : Heap} {a : Addr} {kvs : List (Key × V)} (ok : HOk P w H h) (e : H a = some (.dK kvs)) : (a == sysModules) = false ∧ ∃ es ep vs, DT.Raw h a es ep ∧ es.size = kvs.length ∧ KV kvs vs ∧ Pairs (mixKind P w) es.toList vs ∧ kvs.length ≤ sizeLine := by
  obtain ⟨z, y, vs, r, o, es, ep, h1, h2, h3, h4, h5, h6⟩ := dk_of ok e
  have l1 := h5.length
  rw [Array.length_toList] at l1
  have l2 : kvs.length = vs.length := Paired.length r
  exact ⟨y, es, ep, vs, ⟨o, h1, h2, h3⟩, by omega, r, h5, z⟩
def rItemsK : V → List V → Hp → VK → Prop := fun x xs H Q => ∃ (a : Addr) (kvs : List (Key × V)), x = .ref a ∧ xs = [] ∧ H a = some (.dK kvs) ∧ ∀ p, H p = none → Q (.ref p) (upd H p (DX.itemsO p a))
theorem mt_itemsK : MtR X "dict.items" rItemsK := by
  intro pins s σ H x xs v us Q I rx rxs h
  obtain ⟨a, kvs, rfl, rfl, ha, q⟩ := h
  cases rx
  cases rxs
  obtain ⟨hd, es, ep, vs, R, _⟩ := dk_raw I.hok ha
  refine DT.callItems (es := es) (ep := ep) hd R ?_
  have hf : H s.heap.objs.size = none := I.hok.fresh (Nat.le_refl _)
  exact ⟨.ref s.heap.objs.size, upd H s.heap.objs.size (DX.itemsO s.heap.objs.size a), I.laid (t' := s.toks) (fun b u e => Heap.get?_push_of_some _ e) (Nat.le_refl _) (DX.itemsO_ok (Heap.get?_push_size _ rfl)), rfl, q _ hf⟩
theorem call_listVI (hc : X.calm = true) : CallR X (.type "list") (fun xs H Q => ∃ (p a : Addr) (kvs : List (Key × V)), xs = [V.ref p] ∧ H p = some (DX.itemsO p a) ∧ H a = some (.dK kvs) ∧
    ∀ L ts H', Same H H' → H L = none → H' L = some (.lst (ts.map V.ref)) → Paired (fun t kv => H' t = some (.tup [kV kv.1, kv.2])) ts kvs → Q (.ref L) H') := by
  intro pins s σ H xs us Q I r h
  obtain ⟨p, a, kvs, rfl, hp, ha, q⟩ := h
  obtain ⟨u, rfl, rx⟩ := r.one
  cases rx
  have view : s.heap.IsItemsView p a := (show ObjOk X.prog X.w H s.heap p (DX.itemsO p a) from I.hok p _ hp).1
  obtain ⟨hd, es, ep, vs, R, hsz, rel, prs, hz⟩ := dk_raw I.hok ha
  have hR : s.heap.DictRaw a es ep := let ⟨o, ho, hx, hd⟩ := R; ⟨o, ho, hx, hd⟩
  refine PySem.W.dil_call (I.ok.hd hc) view hR (by omega) fun h' tk acc c as hk hS hl hG hacc => ?_
  have nd : as.Nodup := List.Pairwise.imp (fun h => Nat.ne_of_lt h) hG.rise
  have rv : Vals (as.map V.ref) acc.toList := by rw [hacc]; exact vals_refs _
  have I1 : Inv X pins σ (upd H s.heap.objs.size (.lst (as.map V.ref))) { s with heap := h', toks := tk } :=
    I.laid (t' := tk) hk (Nat.le_refl _) ⟨by rw [List.length_map]; omega, acc.toList, c, rv, by rw [Array.toArray_toList]; exact hS⟩
  obtain ⟨H2, I2, hk2, ht2⟩ := DX.takeT (P := fun b xs => ∃ (j : Nat) (kv : Key × V), as[j]? = some b ∧ kvs[j]? = some kv ∧ xs = [kV kv.1, kv.2]) I as _ I1 nd fun b hb => by
    have hlt := hG.above b hb
    obtain ⟨j, hj⟩ := List.getElem?_of_mem hb
    obtain ⟨hj1, hget⟩ := hG.pairs j b hj
    have hj2 : j < kvs.length := by omega
    obtain ⟨v, hv, rvv⟩ := kv_get rel (i := j) (k := kvs[j].1) (v := kvs[j].2) (List.getElem?_eq_getElem hj2)
    obtain ⟨k1, k2⟩ := prs.get? (i := j) (e := es[j]) (by simp [hj1]) hv
    refine ⟨Nat.le_of_lt hlt, by rw [upd_ne (Nat.ne_of_gt hlt)]; exact I.hok.fresh (Nat.le_of_lt hlt), [kV kvs[j].1, kvs[j].2], ⟨j, kvs[j], hj, List.getElem?_eq_getElem hj2, rfl⟩, fun H2 => ?_⟩
    exact ⟨by show 2 ≤ sizeLine; decide, [es[j].key, es[j].val], .cons (relV_key k1) (.cons (by rw [k2]; exact rvv) .nil), ⟨_, hget, rfl, _, rfl⟩⟩
  have fr : H s.heap.objs.size = none := I.hok.fresh (Nat.le_refl _)
  refine ⟨.ref s.heap.objs.size, H2, I2, rfl, q _ as H2 (fun b o e => hk2 b o (by rw [upd_ne (ne_of_none e fr)]; exact e)) fr (hk2 _ _ upd_same) ?_⟩
  have hlk : as.length = kvs.length := by omega
  have key : ∀ (j : Nat) (b : Addr) (kv : Key × V), as[j]? = some b → kvs[j]? = some kv → H2 b = some (.tup [kV kv.1, kv.2]) := fun j b kv hj hkv => by
    obtain ⟨xs, ⟨j', kv', e1, e2, rfl⟩, e3⟩ := ht2 b (List.mem_of_getElem? hj)
    have ej : j' = j := (List.getElem?_inj (List.getElem?_eq_some_iff.mp e1).1 nd).mp (e1.trans hj.symm)
    subst ej
    rw [hkv] at e2
    cases e2
    exact e3
  clear q nd rv hG hacc ht2 I1 hl
  generalize hgk : (fun t (kv : Key × V) => H2 t = some (.tup [kV kv.1, kv.2])) = R2
  have key2 : ∀ (j : Nat) (b : Addr) (kv : Key × V), as[j]? = some b → kvs[j]? = some kv → R2 b kv := fun j b kv h1 h2 => by rw [← hgk]; exact key j b kv h1 h2
  have : ∀ (as : List Addr) (kvs : List (Key × V)), as.length = kvs.length → (∀ (j : Nat) (b : Addr) (kv : Key × V), as[j]? = some b → kvs[j]? = some kv → R2 b kv) → Paired R2 as kvs := by
    intro as
    induction as with
    | nil => intro kvs h _; cases kvs with
      | nil => exact .nil
      | cons _ _ => cases h
    | cons b as ih =>
      intro kvs h hk
      cases kvs with
      | nil => cases h
      | cons kv kvs => exact .cons (hk 0 b kv rfl rfl) (ih kvs (by simpa using h) fun j b' kv' h1 h2 => hk (j + 1) b' kv' h1 h2)
  exact this as kvs hlk key2
end
end Fld
namespace Fld
open PySem PySem.Spec PyProof.Rows L2
section
variable {X : Cx}
theorem dt_eqAt {A : Around} {pins : List (Addr × Obj)} {σ : L2.St} {H : Hp} {s : Shared} (I : Inv X pins σ H s) (hu : A.units + 2 < cLine) {a b : Addr} {ps qs : List (Nat × Nat)} {f : Nat × Nat → Nat}
    (ha : H a = some (.dT (ps.map fun p => (lenK p, V.int (f p : Nat))))) (hb : H b = some (.dT (qs.map fun p => (lenK p, V.int (f p : Nat))))) (hp : ps.Perm qs) : SeqAt.EqAt A s (.ref a) (.ref b) true := by
  by_cases e : a = b
  · subst e; exact SeqAt.EqAt.same _
  obtain ⟨_, ya, xa, ra, da⟩ := dt_of I.hok ha
  obtain ⟨_, yb, xb, rb, db⟩ := dt_of I.hok hb
  have la : ps.length = xa.length := by have := Paired.length ra; rw [List.length_map] at this; exact this
  have lb : qs.length = xb.length := by have := Paired.length rb; rw [List.length_map] at this; exact this
  have keys : ∀ {ps : List (Nat × Nat)} {xs : List (List Key × Addr × Value)}, KT H (ps.map fun p => (lenK p, V.int (f p : Nat))) xs → ∀ x ∈ xs, ∃ p : Nat × Nat, x.1 = lenK p := by
    intro ps xs r x m
    obtain ⟨j, hj⟩ := List.getElem?_of_mem m
    obtain ⟨y, hy, e1, _⟩ := DX.pget r hj
    rw [List.getElem?_map] at hy
    obtain ⟨p, _, rfl⟩ := Option.map_eq_some_iff.mp hy
    exact ⟨p, e1.symm⟩
  refine SeqAt.EqAt.of_refs e fun prog w E Q h' => ?_
  refine eqH (knd := tupleKind (mixKind prog w)) (ka := xa) (kb := xb) (by show A.in1.units < cLine; show A.units + 1 < cLine; omega) (by omega) ya yb (dictH_any (keys ra) da) (dictH_any (keys rb) db) (by have := hp.length_eq; omega) (fun x m => ?_) h'
  obtain ⟨j, hj⟩ := List.getElem?_of_mem m
  obtain ⟨y, hy, e1, e2, e3⟩ := DX.pget ra hj
  rw [List.getElem?_map] at hy
  obtain ⟨p, hp1, rfl⟩ := Option.map_eq_some_iff.mp hy
  obtain ⟨i, hi⟩ := List.getElem?_of_mem (hp.mem_iff.mp (List.mem_of_getElem? hp1))
  obtain ⟨z, hz, f1, f2, f3⟩ := paired_get rb (i := i) (a := (lenK p, V.int (f p : Nat))) (by rw [List.getElem?_map, hi]; rfl)
  obtain ⟨t1, g1⟩ := e3
  obtain ⟨t2, g2⟩ := f3
  refine ⟨i, z.2.1, z.2.2, ?_, ?_⟩
  · rw [hz]
    have e1' : lenK p = x.1 := e1
    have f1' : lenK p = z.1 := f1
    rw [← e1', f1']
  · rw [g1, g2]
    have := SeqAt.EqAt.int_int (A := A.in1) (s := s) ((f p : Nat) : Int) t1 ((f p : Nat) : Int) t2
    rw [beq_self_eq_true] at this
    exact this
def ShV (K : PySem.W.Frag) (H : Hp) (x : V) (n : Nat) (oc : List Int) (ps : List (Nat × Nat)) (f : Nat × Nat → Nat) : Prop := ∃ t o a, x = .ref t ∧ SqT K H t [.int (n : Nat), .ref o, .ref a] ∧ SqL K H o (oc.map V.int) ∧ H a = some (.dT (ps.map fun p => (lenK p, V.int (f p : Nat))))
def rNeSh (K : PySem.W.Frag) : R2 := fun x y H Q => ∃ (n : Nat) (oc : List Int) (ps qs : List (Nat × Nat)) (f : Nat × Nat → Nat), ShV K H x n oc ps f ∧ ShV K H y n oc qs f ∧ ps.Perm qs ∧ Q (.bl false) H
theorem op_neSh (hu : X.A.units + 70 < cLine) : OpR X (compareOp .NotEq) (rNeSh X.K) := by
  intro pins s σ H x y v u Q I rx ry h
  obtain ⟨n, oc, ps, qs, f, ⟨p, o1, a, rfl, hp, ho1, ha⟩, ⟨q, o2, b, rfl, hq, ho2, hb⟩, pm, hQ⟩ := h
  obtain rfl : v = Value.ref p := rx
  obtain rfl : u = Value.ref q := ry
  obtain ⟨i1, r1, t1, _⟩ := I.tuple hp
  obtain ⟨i2, r2, t2, _⟩ := I.tuple hq
  have three : ∀ {n : Nat} {o a : Addr} {us : List Value}, Vals [V.int (n : Nat), .ref o, .ref a] us → ∃ k, us = [.int (n : Nat) k, .ref o, .ref a] := by
    intro n o a us r
    cases r with
    | cons q1 r =>
      cases r with
      | cons q2 r =>
        cases r with
        | cons q3 r =>
          cases r
          obtain ⟨k, rfl⟩ := q1
          cases q2
          cases q3
          exact ⟨k, rfl⟩
  obtain ⟨k1, rfl⟩ := three r1
  obtain ⟨k2, rfl⟩ := three r2
  obtain ⟨j1, q1, l1, _⟩ := I.list ho1
  obtain ⟨j2, q2, l2, _⟩ := I.list ho2
  have eqn : SeqAt.EqAt X.A.in1 s (.int (n : Nat) k1) (.int (n : Nat) k2) true := by
    have := SeqAt.EqAt.int_int (A := X.A.in1) (s := s) ((n : Nat) : Int) k1 ((n : Nat) : Int) k2
    rw [beq_self_eq_true] at this; exact this
  have eql : SeqAt.EqAt X.A.in1 s (.ref o1) (.ref o2) true := by
    have := PySem.W.keq_ints (A := X.A) (s := s) (a := o1) (b := o2) l1.isList (Vals.ints q1) l2.isList (Vals.ints q2) (by show X.A.units + 1 + 64 < cLine; omega)
    rw [decide_eq_true rfl] at this
    exact this
  have eqd : SeqAt.EqAt X.A.in1 s (.ref a) (.ref b) true := dt_eqAt I (by show X.A.units + 1 + 2 < cLine; omega) ha hb pm
  have := SeqAt.RcNeAt.tuples (A := X.A) (s := s) (l := p) (b := q) (e := fun _ => true) t1 t2 (by omega) (fun j h1 h2 => by
    match j, h1, h2 with
    | 0, _, _ => exact eqn
    | 1, _, _ => exact eql
    | 2, _, _ => exact eqd)
  exact this X.prog X.w _ _ ⟨.bl false, H, I, rfl, hQ⟩
end
end Fld
/-! {(a, b): c} -/
namespace Fld
open PySem PySem.Spec PyProof.Rows L2
/-- a display of one pair whose key is a tuple -/
def tDT1 (tk tv : TE) : TE := fun σ H Q => ∀ p, H p = none → tk σ (upd H p (.dT [])) fun x H1 => tv σ H1 fun y H2 => H2 p = some (.dT []) ∧ ∃ (b : Addr) (ks : List Key), x = .ref b ∧ H2 b = some (.tup (ks.map kV)) ∧ Q (.ref p) (upd H2 p (.dT [(ks, y)]))
theorem pe_dT1 {X : Cx} {pos : Pos} {k v : Expr} {tk tv : TE} (hu : X.A.units + 1 < cLine) (hk : PE X k tk) (hv : PE X v tv) : PE X (.Dict [some k] [v] pos) (tDT1 tk tv) := by
  refine ⟨fun pins s σ H Q I q => ?_⟩
  have hn := I.hok.fresh (Nat.le_refl s.heap.objs.size)
  have I1 := I.laid (a := s.heap.objs.size) (o := .dT []) (h' := s.heap.push { cls := .type "dict", data := .dict #[] }) (t' := s.toks) (fun _ _ q => Heap.get?_push_of_some _ q) (Nat.le_refl _) (dt_empty s.heap I.big)
  rw [arm_eval_Dict, zip_pairTrees [some k] [v] X.env pos rfl rfl, dictDisplay_pairs (pairTrees [some k] [v] X.env pos) (fun z => (nomatch z)) (by show 1 < 17; decide)]
  refine wpAny_bind (wpAny_standAt (wpAny_bind (wpAny_subDictH (knd := tupleKind (mixKind X.prog X.w)) (by show X.A.units < cLine; omega) (by show 1 ≤ 15; decide) ?_)))
  refine thn ((pps_cons hk hv pps_nil).run pins _ σ _ (fun ps H' => match ps with
    | [(x, y)] => H' s.heap.objs.size = some (.dT []) ∧ ∃ (b : Addr) (ks : List Key), x = V.ref b ∧ H' b = some (.tup (ks.map kV)) ∧ Q (.ref s.heap.objs.size) (upd H' s.heap.objs.size (.dT [(ks, y)]))
    | _ => False) I1 (q _ hn)) fun ws s2 h => ?_
  obtain ⟨ps, H2, I2, rel, h⟩ := h
  match ps, rel, h with
  | [(x, y)], rel, ⟨e, b, ks, ex, eb, q2⟩ =>
    subst ex
    obtain ⟨z, hd, xs, r0, dd⟩ := dt_of I2.hok e
    cases r0
    cases rel with
    | cons a r =>
      cases r
      obtain ⟨ra, rb⟩ := a
      rename_i pq
      obtain ⟨pk, pv⟩ := pq
      have ea : pk = Value.ref b := ra
      subst ea
      refine ⟨[(ks, b, pv)], ⟨rfl, rfl, key_of I2.hok eb, True.intro⟩, dd, fun h' tk' dd' hs => wpAny_pure ?_⟩
      refine ⟨.ref s.heap.objs.size, _, ?_, rfl, q2⟩
      obtain ⟨o, es, ep, hq, h2, h3, h4, _, h5⟩ := dd'
      refine d_write I2 (by rw [e]; exact True.intro) hs ⟨o, hq⟩ ⟨by show 1 ≤ sizeLine; decide, hd, [(ks, b, pv)], .cons ⟨rfl, ?_, rb⟩ .nil, o, es, ep, hq, h2, h3, h4, h5⟩
      show upd H2 s.heap.objs.size _ b = some (.tup (ks.map kV))
      rw [upd_ne (ne_of eb e (fun z => nomatch z))]
      exact eb
end Fld
/-! lines that are a field; lengths of fewer entries -/
namespace Fld
open PySem PySem.Spec PyProof.Rows L2
/-- a line that is a field -/
structure LL (F : List Fd) (es : Ent) (f : Fd) (R : Nat) (l : Ln) : Prop where
  ok : l.Ok R
  said : said1 F es l = some f
  mn : ∀ b, mn F es f b R ≤ (l.oct b).length
def LLs (K : PySem.W.Frag) (F : List Fd) (es : Ent) (f : Fd) (R : Nat) (H : Hp) (ys : List V) : Prop := ∀ y ∈ ys, ∃ l, LnV K H y l ∧ LL F es f R l
theorem LLs.ts {K : PySem.W.Frag} {F : List Fd} {es : Ent} {f : Fd} {R : Nat} {H H' : Hp} {ys : List V} (h : LLs K F es f R H ys) (t : TS H H') : LLs K F es f R H' ys := fun y m => let ⟨l, a, b⟩ := h y m; ⟨l, LnV.ts a t, b⟩
theorem LLs.app {K : PySem.W.Frag} {F : List Fd} {es : Ent} {f : Fd} {R : Nat} {H : Hp} {ys zs : List V} (h : LLs K F es f R H ys) (h2 : LLs K F es f R H zs) : LLs K F es f R H (ys ++ zs) := fun y m => (List.mem_append.mp m).elim (h y) (h2 y)
theorem LLs.one {K : PySem.W.Frag} {F : List Fd} {es : Ent} {f : Fd} {R : Nat} {H : Hp} {y : V} {l : Ln} (h : LnV K H y l) (h2 : LL F es f R l) : LLs K F es f R H [y] := fun x m => by rw [List.mem_singleton.mp m]; exact ⟨l, h, h2⟩
theorem LLs.nil {K : PySem.W.Frag} {F : List Fd} {es : Ent} {f : Fd} {R : Nat} {H : Hp} : LLs K F es f R H [] := fun x m => nomatch m
theorem LLs.rep {K : PySem.W.Frag} {F : List Fd} {es : Ent} {f : Fd} {R : Nat} {H : Hp} {ys : List V} (b : Bool) (h : b = true → LLs K F es f R H ys) : LLs K F es f R H (List.replicate (if b then (1 : Int) else 0).toNat ys).flatten := by
  cases b with
  | true => show LLs K F es f R H (ys ++ []); rw [List.append_nil]; exact h rfl
  | false => exact LLs.nil
theorem repB_len {α : Type} {ys : List α} (b : Bool) : (List.replicate (if b then (1 : Int) else 0).toNat ys).flatten.length ≤ ys.length := by
  cases b with
  | true => show (ys ++ []).length ≤ _; rw [List.append_nil]; exact Nat.le_refl _
  | false => exact Nat.zero_le _
theorem numOct_m (n b m m' : Nat) : (numOct n b m).length = (numOct n b m').length := by
  unfold numOct
  by_cases h : n < 2 ^ b - 1
  · rw [if_pos h, if_pos h]; rfl
  · rw [if_neg h, if_neg h]; rfl
theorem numOct_pos (n b m : Nat) : 1 ≤ (numOct n b m).length := by
  unfold numOct
  by_cases h : n < 2 ^ b - 1
  · rw [if_pos h]; exact Nat.le_refl _
  · rw [if_neg h, List.length_cons]; omega
theorem fix_le {n : Nat} (h : n ≤ 40) (x : Str) (b : Nat) : ((Ln.fix1 n).oct b).length ≤ ((Ln.fix2 n x).oct b).length := by
  show (numOct n 6 192).length ≤ (numOct n 4 96 ++ strOct x 7 0).length
  have e : (numOct n 6 192).length = 1 := by unfold numOct; rw [if_pos (by omega)]; rfl
  have := numOct_pos n 4 96
  rw [List.length_append]; omega
theorem ent_le (n : Nat) (x : Str) (b : Nat) : ((Ln.ent1 n).oct b).length ≤ ((Ln.ent2 n x).oct b).length := by
  show (wholeOct b n).length ≤ (namedOct b n ++ strOct x 7 0).length
  rw [List.length_append]
  have e : (wholeOct b n).length = (namedOct b n).length := by
    unfold wholeOct namedOct
    by_cases h : n < b
    · rw [if_pos h, if_pos h]; exact numOct_m _ _ _ _
    · rw [if_neg h, if_neg h]; exact numOct_m _ _ _ _
  omega
section
variable {F : List Fd} {es : Ent} {f g : Fd} {R : Nat}
theorem fix_in {k : Nat} (h : F[k]? = some g) : (⟨0, false, k, g⟩ : Rf) ∈ refs F es := by
  refine List.mem_append_left _ (List.mem_map.mpr ⟨(g, k), ?_, rfl⟩)
  refine List.mem_of_getElem? (i := k) ?_
  rw [List.getElem?_zipIdx, h]
  show some (g, 0 + k) = some (g, k)
  rw [Nat.zero_add]
theorem ent_in {n : Nat} (h : (n, g) ∈ es) : (⟨n + 1, true, n, g⟩ : Rf) ∈ refs F es := List.mem_append_right _ (List.mem_map.mpr ⟨(n, g), h, rfl⟩)
theorem ln_in {r : Rf} {l : Ln} (h : r ∈ refs F es) (e : Rf.ln f r = some l) : l ∈ linesL F es f := List.mem_cons_of_mem _ (List.mem_filterMap.mpr ⟨r, h, e⟩)
theorem LL.in_ (ok : ShOk F es) (hf : FdOk f) {l : Ln} (m : l ∈ linesL F es f) (h : lnReq l ≤ R) : LL F es f R l := ⟨line_ok ok hf l m h, line_said ok.nd l m, fun b => (mn_spec F es f b R).2 l m h⟩
theorem LL.out (ok : ShOk F es) (hf : FdOk f) : LL F es f R (.out f.1 f.2) := LL.in_ ok hf (List.mem_cons_self ..) (Nat.zero_le _)
theorem LL.fix1 (ok : ShOk F es) (hf : FdOk f) {k : Nat} (h : F[k]? = some f) : LL F es f R (.fix1 k) := LL.in_ ok hf (ln_in (fix_in h) (by unfold Rf.ln; rw [if_pos rfl]; rfl)) (Nat.zero_le _)
theorem LL.ent1 (ok : ShOk F es) (hf : FdOk f) {n : Nat} (h : (n, f) ∈ es) (hR : n < R) : LL F es f R (.ent1 n) := LL.in_ ok hf (ln_in (ent_in h) (by unfold Rf.ln; rw [if_pos rfl]; rfl)) hR
theorem LL.fix2 (ok : ShOk F es) (hf : FdOk f) {k : Nat} (h : F[k]? = some g) (e : g.1 = f.1) : LL F es f R (.fix2 k f.2) := by
  by_cases q : g = f
  · subst q
    have hk : k < F.length := (List.getElem?_eq_some_iff.mp h).1
    have := ok.fl
    refine ⟨⟨by omega, hf.v⟩, ?_, fun b => Nat.le_trans ((LL.fix1 (R := R) ok hf h).mn b) (fix_le (by omega) _ b)⟩
    show (F[k]?).map (fun x => (x.1, g.2)) = some g
    rw [h]; rfl
  · exact LL.in_ ok hf (ln_in (fix_in h) (by unfold Rf.ln; rw [if_neg q, if_pos e]; rfl)) (Nat.zero_le _)
theorem LL.ent2 (ok : ShOk F es) (hf : FdOk f) {n : Nat} (h : (n, g) ∈ es) (e : g.1 = f.1) (hR : n < R) : LL F es f R (.ent2 n f.2) := by
  by_cases q : g = f
  · subst q
    refine ⟨⟨hR, hf.v⟩, ?_, fun b => Nat.le_trans ((LL.ent1 (R := R) ok hf h hR).mn b) (ent_le _ _ b)⟩
    show (lookE es n).map (fun x => (x.1, g.2)) = some g
    rw [(look_some_iff ok.nd).mpr h]; rfl
  · exact LL.in_ ok hf (ln_in (ent_in h) (by unfold Rf.ln; rw [if_neg q, if_pos e]; rfl)) hR
end
def LLL (F : List Fd) (es : Ent) (R : Nat) (ls : List Ln) (fs : List Fd) : Prop := Paired (fun l f => LL F es f R l) ls fs
theorem LLL.say {F : List Fd} {es : Ent} {R : Nat} (b : Nat) {ls : List Ln} {fs : List Fd} (h : LLL F es R ls fs) : ls.length = fs.length ∧ (∀ l ∈ ls, l.Ok R) ∧ saidL F es ls = some fs ∧ (fs.map fun f => mn F es f b R).sum ≤ (lnsOct b ls).length := by
  unfold LLL at h
  induction h with
  | nil => exact ⟨rfl, fun l m => (nomatch m), rfl, Nat.le_refl _⟩
  | @cons l f ls fs h _ ih =>
    obtain ⟨i1, i2, i3, i4⟩ := ih
    refine ⟨by rw [List.length_cons, List.length_cons, i1], fun x m => ?_, ?_, ?_⟩
    · rcases List.mem_cons.mp m with z | m
      · rw [z]; exact h.ok
      · exact i2 x m
    · unfold saidL
      rw [h.said, i3]
      rfl
    · have e2 : lnsOct b (l :: ls) = l.oct b ++ lnsOct b ls := rfl
      have := h.mn b
      rw [e2, List.length_append, List.map_cons, List.sum_cons]
      omega
theorem LLL.len {F : List Fd} {es : Ent} {R b : Nat} {ls : List Ln} {fs : List Fd} (h : LLL F es R ls fs) : lenN F es fs R b ≤ (⟨R, b, ls⟩ : Blk).oct.length := by
  show _ ≤ ((numOct R 8 0 ++ numOct (R - b) 8 0) ++ lnsOct b ls).length
  have := (h.say b).2.2.2
  rw [List.length_append, List.length_append]
  unfold lenN headN
  omega
def sp_lines_for (K : PySem.W.Frag) : Sp := fun vs H Q _ => ∃ (fv : V) (t D : Addr) (F : List Fd) (es : Ent) (f : Fd) (R : Nat), vs = [fv, .ref t, .ref D, .int (R : Nat)] ∧ TabV K H t D F es ∧ ShOk F es ∧ F.length ≤ 12 ∧ es.length ≤ 24 ∧ FdV K H fv f ∧ FdOk f ∧
  ∀ a ys H', Same H H' → H a = none → H' a = some (.lst ys) → ys ≠ [] → ys.length ≤ 100 → LLs K F es f R H' ys → Q (.ref a) H'
def sp_draw_lines_for (K : PySem.W.Frag) : Sp := fun vs H Q _ => ∃ (p c t D u : Addr) (n : Nat) (F : List Fd) (es : Ent) (xs : List V) (fs : List Fd) (R : Nat), vs = [.ref p, .ref t, .ref D, .ref u, .int (R : Nat)] ∧ Pen H p c n ∧ n ≤ 600000 ∧ TabV K H t D F es ∧ ShOk F es ∧
  F.length ≤ 12 ∧ es.length ≤ 24 ∧ SqT K H u xs ∧ FdsV K H xs fs ∧ (∀ f ∈ fs, FdOk f) ∧ fs.length ≤ 16 ∧ ∀ v ys ls H', SqT K H' v ys → LnsV K H' ys ls → LLL F es R ls fs → Drew p c H H' (n + 20) → Q (.ref v) H'
/-! ### fewer entries -/
theorem lines_sub {F F' : List Fd} {es es' : Ent} (h : ∀ r ∈ refs F' es', r ∈ refs F es) (f : Fd) : ∀ l ∈ linesL F' es' f, l ∈ linesL F es f := by
  intro l m
  rcases List.mem_cons.mp m with z | m
  · rw [z]; exact List.mem_cons_self ..
  · obtain ⟨r, hr, e⟩ := List.mem_filterMap.mp m
    exact ln_in (h r hr) e
theorem mn_sub {F F' : List Fd} {es es' : Ent} (h : ∀ r ∈ refs F' es', r ∈ refs F es) (f : Fd) (b R : Nat) : mn F es f b R ≤ mn F' es' f b R := by
  obtain ⟨l, hl, hr, e⟩ := (mn_spec F' es' f b R).1
  rw [← e]
  exact (mn_spec F es f b R).2 l (lines_sub h f l hl) hr
theorem res_sub {F F' : List Fd} {es es' : Ent} {fs : List Fd} {n n' : Nat} {oc oc' : List Int} (h : ShRes F es fs n oc) (h' : ShRes F' es' fs n' oc') (hr : ∀ r ∈ refs F' es', r ∈ refs F es) (hq : ∀ r ∈ reqsL es', r ∈ reqsL es) : n ≤ n' := by
  obtain ⟨p, hp, e⟩ := h'.at_
  have hp' := keys_in.mp hp
  have := h.min p (keys_in.mpr ⟨hq _ hp'.1, hp'.2⟩)
  have h2 := sum_le (fun f => mn F es f p.2 p.1) (fun f => mn F' es' f p.2 p.1) (l := fs) fun f _ => mn_sub hr f p.2 p.1
  rw [e]
  unfold lenN at this ⊢
  omega
theorem refs_sub {F : List Fd} {es es' : Ent} (h : ∀ e ∈ es', e ∈ es) : ∀ r ∈ refs F es', r ∈ refs F es := by
  intro r m
  rcases List.mem_append.mp m with m | m
  · exact List.mem_append_left _ m
  · obtain ⟨e, he, z⟩ := List.mem_map.mp m
    exact List.mem_append_right _ (List.mem_map.mpr ⟨e, h e he, z⟩)
theorem reqs_sub {es es' : Ent} (h : ∀ e ∈ es', e ∈ es) : ∀ r ∈ reqsL es', r ∈ reqsL es := by
  intro r m
  rcases List.mem_cons.mp m with z | m
  · rw [z]; exact List.mem_cons_self ..
  · obtain ⟨n, hn, e⟩ := List.mem_map.mp m
    obtain ⟨x, hx, e2⟩ := List.mem_map.mp ((skeys_perm es').mem_iff.mp hn)
    exact List.mem_cons_of_mem _ (List.mem_map.mpr ⟨n, (skeys_perm es).mem_iff.mpr (List.mem_map.mpr ⟨x, h x hx, e2⟩), e⟩)
theorem refs0 {F : List Fd} {es : Ent} : ∀ r ∈ refs [] [], r ∈ refs F es := fun r m => nomatch m
theorem reqs0 {es : Ent} : ∀ r ∈ reqsL [], r ∈ reqsL es := fun r m => by
  have e : reqsL [] = [0] := by unfold reqsL skeys; rw [List.map_nil, List.mergeSort_nil]; rfl
  rw [e, List.mem_singleton] at m
  rw [m]; exact List.mem_cons_self ..
theorem all0 : allK [] = [(0, 0)] := by
  have e : reqsL [] = [0] := by unfold reqsL skeys; rw [List.map_nil, List.mergeSort_nil]; rfl
  unfold allK
  rw [e]
  rfl
theorem said_out : ∀ {ls : List Ln} {fs : List Fd}, saidL [] [] ls = some fs → ls = fs.map fun f => .out f.1 f.2
  | [], fs, h => by cases h; rfl
  | l :: ls, fs, h => by
    unfold saidL at h
    cases l with
    | out y x =>
      cases e : saidL [] [] ls with
      | none => rw [e] at h; cases h
      | some gs =>
        rw [e] at h
        cases h
        rw [said_out e]
        rfl
    | fix1 n => cases h
    | fix2 n x => cases h
    | ent1 n => cases h
    | ent2 n x => cases h
theorem plain_res {fs : List Fd} {n : Nat} {oc : List Int} (h : ShRes [] [] fs n oc) : oc = (outB fs).oct ∧ n = (outB fs).oct.length ∧ n = lenN [] [] fs 0 0 := by
  obtain ⟨b, okb, e, hs, hm⟩ := h.blk
  obtain ⟨p, hp, hn⟩ := h.at_
  rw [all0, List.mem_singleton] at hm hp
  subst hp
  obtain ⟨req, base, ls⟩ := b
  have h1 := (Prod.mk.inj hm).1
  have h2 := (Prod.mk.inj hm).2
  dsimp only at h1 h2 hs e
  subst h1 h2
  rw [said_out hs] at e
  have e' : oc = (outB fs).oct := e
  exact ⟨e', by rw [← e', h.lng], hn⟩
theorem lenN_nil (F : List Fd) (es : Ent) (R b : Nat) : lenN F es [] R b = headN R b := rfl
theorem lenN_gap (F : List Fd) (es : Ent) (f : Fd) (R b : Nat) : ((lenN F es [f] R b : Nat) : Int) - (headN R b : Nat) = (mn F es f b R : Nat) := by
  have : lenN F es [f] R b = headN R b + mn F es f b R := by
    show headN R b + (mn F es f b R + 0) = _
    omega
  omega
theorem all_small {es : Ent} (hl : es.length ≤ 5) (hk : ∀ e ∈ es, e.1 ≤ 39) : (allK es).length ≤ 1000 := by
  have hr : ∀ r ∈ reqsL es, r ≤ 40 := by
    intro r m
    rcases List.mem_cons.mp m with z | m
    · omega
    · obtain ⟨n, hn, rfl⟩ := List.mem_map.mp m
      obtain ⟨e, he, rfl⟩ := List.mem_map.mp ((skeys_perm es).mem_iff.mp hn)
      have := hk e he
      omega
  have h2 : (reqsL es).length ≤ 6 := by
    show (List.map _ _).length + 1 ≤ _
    rw [List.length_map, (skeys_perm es).length_eq, List.length_map]
    omega
  have : ∀ rs : List Nat, (∀ r ∈ rs, r ≤ 40) → (keysL rs 0).length ≤ 41 * rs.length := by
    intro rs
    induction rs with
    | nil => intro _; simp [keysL]
    | cons r rs ih =>
      intro h
      have h1 := ih fun x m => h x (List.mem_cons_of_mem _ m)
      have h2 := h r (List.mem_cons_self ..)
      have e : keysL (r :: rs) 0 = rowK 0 r ++ keysL rs 0 := rfl
      rw [e, List.length_append]
      have e2 : (rowK 0 r).length = r + 1 - min 0 r := by unfold rowK; rw [List.length_map, List.length_range]
      rw [e2, List.length_cons]
      omega
  have := this _ hr
  unfold allK
  omega
end Fld
/-! what stands while the law of shortest blocks runs -/
namespace Fld
open PySem PySem.Spec PyProof.Rows L2
theorem EsOk.sub {m : Nat} {es es' : Ent} (h : EsOk m es) (s : es'.Sublist es) : EsOk m es' := ⟨Nat.le_trans s.length_le h.len, fun e he => h.key e (s.subset he), fun e he => h.fd e (s.subset he), List.Pairwise.sublist (s.map (·.1)) h.nd⟩
theorem LenD.drew {F : List Fd} {es : Ent} {fs : List Fd} {ps : List (Nat × Nat)} {H H' : Hp} {a p c : Addr} {n m : Nat} (h : LenD F es fs ps H a) (P : Pen H p c n) (d : Drew p c H H' m) : LenD F es fs ps H' a := by
  obtain ⟨kvs, g, e⟩ := h
  refine ⟨kvs, d.but _ _ (fun z => ?_) g, e⟩
  obtain ⟨zs, hz⟩ := P.some.1
  rw [z, hz] at g
  cases g
theorem LenD.bt {F : List Fd} {es : Ent} {fs : List Fd} {ps : List (Nat × Nat)} {H H' : Hp} {a D : Addr} (h : LenD F es fs ps H a) (hD : ∃ zs, H D = some (.lst zs)) (s : Bt D H H') : LenD F es fs ps H' a := by
  obtain ⟨kvs, g, e⟩ := h
  refine ⟨kvs, s _ _ (fun z => ?_) g, e⟩
  obtain ⟨zs, hz⟩ := hD
  rw [z, hz] at g
  cases g
theorem EntV.drew {K : PySem.W.Frag} {H H' : Hp} {D p c : Addr} {es : Ent} {n m : Nat} (h : EntV K H D es) (P : Pen H p c n) (d : Drew p c H H' m) : EntV K H' D es := by
  refine h.ts (TS.drew P d) fun o e => d.but _ _ (fun z => ?_) e
  obtain ⟨kvs, g, _⟩ := h
  obtain ⟨zs, hz⟩ := P.some.1
  rw [z, hz] at g
  cases g
structure Wd (K : PySem.W.Frag) (sa ft D u la : Addr) (fx xs : List V) (F : List Fd) (r w : Nat) (es : Ent) (fs : List Fd) (H : Hp) : Prop where
  st : SqT K H sa [.ref ft, .int (r : Nat), .int (w : Nat)]
  ft_ : SqT K H ft fx
  fx_ : FdsV K H fx F
  en : EntV K H D es
  fu : SqT K H u xs
  fs_ : FdsV K H xs fs
  le : LenD F es fs (allK es) H la
section
variable {K : PySem.W.Frag} {sa ft D u la : Addr} {fx xs : List V} {F : List Fd} {r w : Nat} {es : Ent} {fs : List Fd} {H H' : Hp}
theorem Wd.same (h : Wd K sa ft D u la fx xs F r w es fs H) (s : Same H H') : Wd K sa ft D u la fx xs F r w es fs H' := ⟨s.tup h.st, s.tup h.ft_, h.fx_.ts (.of s), h.en.same s, s.tup h.fu, h.fs_.ts (.of s), h.le.same s⟩
theorem Wd.drew {p c : Addr} {n m : Nat} (h : Wd K sa ft D u la fx xs F r w es fs H) (P : Pen H p c n) (d : Drew p c H H' m) : Wd K sa ft D u la fx xs F r w es fs H' :=
  let t := TS.drew P d; ⟨t.tup h.st, t.tup h.ft_, h.fx_.ts t, h.en.drew P d, t.tup h.fu, h.fs_.ts t, h.le.drew P d⟩
theorem Wd.set (h : Wd K sa ft D u la fx xs F r w es fs H) : SetV K H (.ref sa) F r w := ⟨sa, ft, fx, rfl, h.st, h.ft_, h.fx_⟩
theorem Wd.tab (h : Wd K sa ft D u la fx xs F r w es fs H) : TabV K H ft D F es := ⟨⟨fx, h.ft_, h.fx_⟩, h.en⟩
end
/-- the lengths of one field alone -/
def PtV (F : List Fd) (es : Ent) (v : V) (f : Fd) (H : Hp) : Prop := ∃ a, v = .ref a ∧ LenD F es [f] (allK es) H a
/-- a key -/
def KyV (H : Hp) (x : V) (q : Nat × Nat) : Prop := ∃ t, x = V.ref t ∧ H t = some (.tup ((lenK q).map kV))
theorem keysV_mem {H : Hp} {ys : List V} {qs : List (Nat × Nat)} (h : KeysV H ys qs) : ∀ y ∈ ys, ∃ q ∈ qs, KyV H y q := by
  unfold KeysV at h
  induction h with
  | nil => intro y m; cases m
  | @cons y q ys qs h _ ih =>
    intro z m
    rcases List.mem_cons.mp m with e | m
    · rw [e]; exact ⟨q, List.mem_cons_self .., h⟩
    · obtain ⟨q', m', h'⟩ := ih z m
      exact ⟨q', List.mem_cons_of_mem _ m', h'⟩
theorem lenD_keys {F : List Fd} {es : Ent} {fs : List Fd} {ps : List (Nat × Nat)} : (ps.map (lenE F es fs)).map (·.1) = ps.map lenK := by rw [List.map_map]; rfl
theorem take_kvs {K : PySem.W.Frag} {H : Hp} {kvs : List (Key × V)} {es : Ent} (h : Paired (PrV K H) kvs es) (nd : (es.map (·.1)).Nodup) : mergeK [] (kvs.take 5) = kvs.take 5 :=
  merge_app (kvs.take 5) [] (by rw [List.nil_append]; exact List.Pairwise.sublist ((List.take_sublist 5 kvs).map (·.1)) (keys_nd h nd))
theorem merge_nd {kvs : List (Key × V)} (nd : (kvs.map (·.1)).Nodup) : mergeK [] kvs = kvs := merge_app kvs [] (by rw [List.nil_append]; exact nd)
theorem p_eqm {α : Type} {f : α → V} {ys : List V} {as : List α} (h : Paired (fun v a => v = f a) ys as) : ys = as.map f := by
  induction h with
  | nil => rfl
  | cons h _ ih => rw [h, ih]; rfl
end Fld
namespace Fld
open PySem PySem.Spec PyProof.Rows L2
/-! ### the text by places -/
def top (i : Nat) : Stmt := PySem.Challenge.pw_fieldtable_k35_whole_shortest_blocks.main.body.getD i (.Pass ⟨0, 0, 0, 0⟩)
abbrev s_is_between : Stmt := top 15
abbrev s_is_number : Stmt := top 16
abbrev s_is_text : Stmt := top 17
abbrev s_is_name : Stmt := top 18
abbrev s_is_value : Stmt := top 19
abbrev s_is_field : Stmt := top 20
abbrev s_is_tuple_of_fields : Stmt := top 21
abbrev s_are_fields : Stmt := top 22
abbrev s_is_setting : Stmt := top 23
abbrev s_check_setting : Stmt := top 24
abbrev s_check_prefix : Stmt := top 25
abbrev s_prefix_bits : Stmt := top 26
abbrev s_number_octets : Stmt := top 27
abbrev s_string_octets : Stmt := top 28
abbrev s_value_octets : Stmt := top 29
abbrev s_is_line : Stmt := top 32
abbrev s_is_block : Stmt := top 33
abbrev s_write_block : Stmt := top 34
abbrev s_line_octets : Stmt := top 35
abbrev s_whole_octets : Stmt := top 36
abbrev s_named_octets : Stmt := top 37
abbrev s_are_entries : Stmt := top 41
abbrev s_check_entries : Stmt := top 42
abbrev s_says : Stmt := top 43
abbrev s_said_fields : Stmt := top 44
abbrev s_said_field : Stmt := top 45
abbrev s_referred : Stmt := top 46
abbrev s_shortest : Stmt := top 48
abbrev s_checked_lengths : Stmt := top 49
abbrev s_fewest_octets : Stmt := top 50
abbrev s_best_pair : Stmt := top 51
abbrev s_best_block : Stmt := top 52
abbrev s_best_choice : Stmt := top 53
abbrev s_best_choices : Stmt := top 54
abbrev s_line_choices : Stmt := top 55
abbrev s_referable : Stmt := top 56
abbrev s_law_open : Stmt := top 58
abbrev s_law_spread : Stmt := top 59
abbrev s_law_take : Stmt := top 60
abbrev s_law_one_of : Stmt := top 61
abbrev s_law_signs : Stmt := top 62
abbrev s_law_draw_text : Stmt := top 63
abbrev s_law_draw_near_field : Stmt := top 64
abbrev s_law_draw_setting : Stmt := top 65
abbrev s_law_draw_entries : Stmt := top 66
abbrev s_law_draw_saying : Stmt := top 67
abbrev s_law_lines_for : Stmt := top 68
abbrev s_law_draw_lines_for : Stmt := top 69
abbrev s_law : Stmt := top 70
/-- what the top has written -/
structure Txt (K : PySem.W.Frag) (mg : Str → Option Value) where
  f_is_between : Addr
  d_is_between : FuncData
  F_is_between : Fun K "is_between" "is_between" s_is_between f_is_between d_is_between
  b_is_between : Binds K d_is_between ["thing", "least", "most"] []
  g_is_between : mg "is_between" = some (.ref f_is_between)
  f_is_number : Addr
  d_is_number : FuncData
  F_is_number : Fun K "is_number" "is_number" s_is_number f_is_number d_is_number
  b_is_number : Binds K d_is_number ["thing"] []
  g_is_number : mg "is_number" = some (.ref f_is_number)
  f_is_text : Addr
  d_is_text : FuncData
  F_is_text : Fun K "is_text" "is_text" s_is_text f_is_text d_is_text
  b_is_text : Binds K d_is_text ["thing", "least", "most"] []
  g_is_text : mg "is_text" = some (.ref f_is_text)
  f_is_name : Addr
  d_is_name : FuncData
  F_is_name : Fun K "is_name" "is_name" s_is_name f_is_name d_is_name
  b_is_name : Binds K d_is_name ["thing"] []
  g_is_name : mg "is_name" = some (.ref f_is_name)
  f_is_value : Addr
  d_is_value : FuncData
  F_is_value : Fun K "is_value" "is_value" s_is_value f_is_value d_is_value
  b_is_value : Binds K d_is_value ["thing"] []
  g_is_value : mg "is_value" = some (.ref f_is_value)
  f_is_field : Addr
  d_is_field : FuncData
  F_is_field : Fun K "is_field" "is_field" s_is_field f_is_field d_is_field
  b_is_field : Binds K d_is_field ["thing"] []
  g_is_field : mg "is_field" = some (.ref f_is_field)
  f_is_tuple_of_fields : Addr
  d_is_tuple_of_fields : FuncData
  F_is_tuple_of_fields : Fun K "is_tuple_of_fields" "is_tuple_of_fields" s_is_tuple_of_fields f_is_tuple_of_fields d_is_tuple_of_fields
  b_is_tuple_of_fields : Binds K d_is_tuple_of_fields ["thing", "most"] []
  g_is_tuple_of_fields : mg "is_tuple_of_fields" = some (.ref f_is_tuple_of_fields)
  f_are_fields : Addr
  d_are_fields : FuncData
  F_are_fields : Fun K "are_fields" "are_fields" s_are_fields f_are_fields d_are_fields
  b_are_fields : Binds K d_are_fields ["thing"] []
  g_are_fields : mg "are_fields" = some (.ref f_are_fields)
  f_is_setting : Addr
  d_is_setting : FuncData
  F_is_setting : Fun K "is_setting" "is_setting" s_is_setting f_is_setting d_is_setting
  b_is_setting : Binds K d_is_setting ["thing"] []
  g_is_setting : mg "is_setting" = some (.ref f_is_setting)
  f_check_setting : Addr
  d_check_setting : FuncData
  F_check_setting : Fun K "check_setting" "check_setting" s_check_setting f_check_setting d_check_setting
  b_check_setting : Binds K d_check_setting ["setting"] []
  g_check_setting : mg "check_setting" = some (.ref f_check_setting)
  f_check_prefix : Addr
  d_check_prefix : FuncData
  F_check_prefix : Fun K "check_prefix" "check_prefix" s_check_prefix f_check_prefix d_check_prefix
  b_check_prefix : Binds K d_check_prefix ["prefix", "mark"] []
  g_check_prefix : mg "check_prefix" = some (.ref f_check_prefix)
  f_prefix_bits : Addr
  d_prefix_bits : FuncData
  F_prefix_bits : Fun K "prefix_bits" "prefix_bits" s_prefix_bits f_prefix_bits d_prefix_bits
  b_prefix_bits : Binds K d_prefix_bits ["prefix"] []
  g_prefix_bits : mg "prefix_bits" = some (.ref f_prefix_bits)
  f_number_octets : Addr
  d_number_octets : FuncData
  F_number_octets : Fun K "number_octets" "number_octets" s_number_octets f_number_octets d_number_octets
  b_number_octets : Binds K d_number_octets ["number", "prefix", "mark"] []
  g_number_octets : mg "number_octets" = some (.ref f_number_octets)
  f_string_octets : Addr
  d_string_octets : FuncData
  F_string_octets : Fun K "string_octets" "string_octets" s_string_octets f_string_octets d_string_octets
  b_string_octets : Binds K d_string_octets ["text", "prefix", "mark"] []
  g_string_octets : mg "string_octets" = some (.ref f_string_octets)
  f_value_octets : Addr
  d_value_octets : FuncData
  F_value_octets : Fun K "value_octets" "value_octets" s_value_octets f_value_octets d_value_octets
  b_value_octets : Binds K d_value_octets ["value"] []
  g_value_octets : mg "value_octets" = some (.ref f_value_octets)
  f_is_line : Addr
  d_is_line : FuncData
  F_is_line : Fun K "is_line" "is_line" s_is_line f_is_line d_is_line
  b_is_line : Binds K d_is_line ["thing", "required"] []
  g_is_line : mg "is_line" = some (.ref f_is_line)
  f_is_block : Addr
  d_is_block : FuncData
  F_is_block : Fun K "is_block" "is_block" s_is_block f_is_block d_is_block
  b_is_block : Binds K d_is_block ["thing"] []
  g_is_block : mg "is_block" = some (.ref f_is_block)
  f_write_block : Addr
  d_write_block : FuncData
  F_write_block : Fun K "write_block" "write_block" s_write_block f_write_block d_write_block
  b_write_block : Binds K d_write_block ["block"] []
  g_write_block : mg "write_block" = some (.ref f_write_block)
  f_line_octets : Addr
  d_line_octets : FuncData
  F_line_octets : Fun K "line_octets" "line_octets" s_line_octets f_line_octets d_line_octets
  b_line_octets : Binds K d_line_octets ["line", "base"] []
  g_line_octets : mg "line_octets" = some (.ref f_line_octets)
  f_whole_octets : Addr
  d_whole_octets : FuncData
  F_whole_octets : Fun K "whole_octets" "whole_octets" s_whole_octets f_whole_octets d_whole_octets
  b_whole_octets : Binds K d_whole_octets ["kind", "number", "base"] []
  g_whole_octets : mg "whole_octets" = some (.ref f_whole_octets)
  f_named_octets : Addr
  d_named_octets : FuncData
  F_named_octets : Fun K "named_octets" "named_octets" s_named_octets f_named_octets d_named_octets
  b_named_octets : Binds K d_named_octets ["kind", "number", "base"] []
  g_named_octets : mg "named_octets" = some (.ref f_named_octets)
  f_are_entries : Addr
  d_are_entries : FuncData
  F_are_entries : Fun K "are_entries" "are_entries" s_are_entries f_are_entries d_are_entries
  b_are_entries : Binds K d_are_entries ["thing"] []
  g_are_entries : mg "are_entries" = some (.ref f_are_entries)
  f_check_entries : Addr
  d_check_entries : FuncData
  F_check_entries : Fun K "check_entries" "check_entries" s_check_entries f_check_entries d_check_entries
  b_check_entries : Binds K d_check_entries ["entries"] []
  g_check_entries : mg "check_entries" = some (.ref f_check_entries)
  f_says : Addr
  d_says : FuncData
  F_says : Fun K "says" "says" s_says f_says d_says
  b_says : Binds K d_says ["setting", "entries", "block"] []
  g_says : mg "says" = some (.ref f_says)
  f_said_fields : Addr
  d_said_fields : FuncData
  F_said_fields : Fun K "said_fields" "said_fields" s_said_fields f_said_fields d_said_fields
  b_said_fields : Binds K d_said_fields ["fixed", "entries", "lines"] []
  g_said_fields : mg "said_fields" = some (.ref f_said_fields)
  f_said_field : Addr
  d_said_field : FuncData
  F_said_field : Fun K "said_field" "said_field" s_said_field f_said_field d_said_field
  b_said_field : Binds K d_said_field ["fixed", "entries", "line"] []
  g_said_field : mg "said_field" = some (.ref f_said_field)
  f_referred : Addr
  d_referred : FuncData
  F_referred : Fun K "referred" "referred" s_referred f_referred d_referred
  b_referred : Binds K d_referred ["fixed", "entries", "kind", "number"] []
  g_referred : mg "referred" = some (.ref f_referred)
  f_shortest : Addr
  d_shortest : FuncData
  F_shortest : Fun K "shortest" "shortest" s_shortest f_shortest d_shortest
  b_shortest : Binds K d_shortest ["setting", "entries", "fields"] []
  g_shortest : mg "shortest" = some (.ref f_shortest)
  f_checked_lengths : Addr
  d_checked_lengths : FuncData
  F_checked_lengths : Fun K "checked_lengths" "checked_lengths" s_checked_lengths f_checked_lengths d_checked_lengths
  b_checked_lengths : Binds K d_checked_lengths ["setting", "entries", "fields"] []
  g_checked_lengths : mg "checked_lengths" = some (.ref f_checked_lengths)
  f_fewest_octets : Addr
  d_fewest_octets : FuncData
  F_fewest_octets : Fun K "fewest_octets" "fewest_octets" s_fewest_octets f_fewest_octets d_fewest_octets
  b_fewest_octets : Binds K d_fewest_octets ["fixed", "entries", "fields", "lowest"] []
  g_fewest_octets : mg "fewest_octets" = some (.ref f_fewest_octets)
  f_best_pair : Addr
  d_best_pair : FuncData
  F_best_pair : Fun K "best_pair" "best_pair" s_best_pair f_best_pair d_best_pair
  b_best_pair : Binds K d_best_pair ["lengths"] []
  g_best_pair : mg "best_pair" = some (.ref f_best_pair)
  f_best_block : Addr
  d_best_block : FuncData
  F_best_block : Fun K "best_block" "best_block" s_best_block f_best_block d_best_block
  b_best_block : Binds K d_best_block ["fixed", "entries", "fields", "required", "base"] []
  g_best_block : mg "best_block" = some (.ref f_best_block)
  f_best_choice : Addr
  d_best_choice : FuncData
  F_best_choice : Fun K "best_choice" "best_choice" s_best_choice f_best_choice d_best_choice
  b_best_choice : Binds K d_best_choice ["choices", "required"] []
  g_best_choice : mg "best_choice" = some (.ref f_best_choice)
  f_best_choices : Addr
  d_best_choices : FuncData
  F_best_choices : Fun K "best_choices" "best_choices" s_best_choices f_best_choices d_best_choices
  b_best_choices : Binds K d_best_choices ["fixed", "entries", "field", "base"] []
  g_best_choices : mg "best_choices" = some (.ref f_best_choices)
  f_line_choices : Addr
  d_line_choices : FuncData
  F_line_choices : Fun K "line_choices" "line_choices" s_line_choices f_line_choices d_line_choices
  b_line_choices : Binds K d_line_choices ["fixed", "entries", "field", "base"] []
  g_line_choices : mg "line_choices" = some (.ref f_line_choices)
  f_referable : Addr
  d_referable : FuncData
  F_referable : Fun K "referable" "referable" s_referable f_referable d_referable
  b_referable : Binds K d_referable ["fixed", "entries"] []
  g_referable : mg "referable" = some (.ref f_referable)
  f_law_open : Addr
  d_law_open : FuncData
  F_law_open : Fun K "_law_open" "_law_open" s_law_open f_law_open d_law_open
  b_law_open : Binds K d_law_open ["script"] []
  g_law_open : mg "_law_open" = some (.ref f_law_open)
  f_law_spread : Addr
  d_law_spread : FuncData
  F_law_spread : Fun K "_law_spread" "_law_spread" s_law_spread f_law_spread d_law_spread
  b_law_spread : Binds K d_law_spread ["cell", "at"] []
  g_law_spread : mg "_law_spread" = some (.ref f_law_spread)
  f_law_take : Addr
  d_law_take : FuncData
  F_law_take : Fun K "_law_take" "_law_take" s_law_take f_law_take d_law_take
  b_law_take : Binds K d_law_take ["pen", "amount"] []
  g_law_take : mg "_law_take" = some (.ref f_law_take)
  f_law_one_of : Addr
  d_law_one_of : FuncData
  F_law_one_of : Fun K "_law_one_of" "_law_one_of" s_law_one_of f_law_one_of d_law_one_of
  b_law_one_of : Binds K d_law_one_of ["pen", "some"] []
  g_law_one_of : mg "_law_one_of" = some (.ref f_law_one_of)
  f_law_signs : Addr
  d_law_signs : FuncData
  F_law_signs : Fun K "_law_signs" "_law_signs" s_law_signs f_law_signs d_law_signs
  b_law_signs : Binds K d_law_signs [] []
  g_law_signs : mg "_law_signs" = some (.ref f_law_signs)
  f_law_draw_text : Addr
  d_law_draw_text : FuncData
  F_law_draw_text : Fun K "_law_draw_text" "_law_draw_text" s_law_draw_text f_law_draw_text d_law_draw_text
  b_law_draw_text : Binds K d_law_draw_text ["pen", "least", "most"] []
  g_law_draw_text : mg "_law_draw_text" = some (.ref f_law_draw_text)
  f_law_draw_near_field : Addr
  d_law_draw_near_field : FuncData
  F_law_draw_near_field : Fun K "_law_draw_near_field" "_law_draw_near_field" s_law_draw_near_field f_law_draw_near_field d_law_draw_near_field
  b_law_draw_near_field : Binds K d_law_draw_near_field ["pen"] []
  g_law_draw_near_field : mg "_law_draw_near_field" = some (.ref f_law_draw_near_field)
  f_law_draw_setting : Addr
  d_law_draw_setting : FuncData
  F_law_draw_setting : Fun K "_law_draw_setting" "_law_draw_setting" s_law_draw_setting f_law_draw_setting d_law_draw_setting
  b_law_draw_setting : Binds K d_law_draw_setting ["pen"] []
  g_law_draw_setting : mg "_law_draw_setting" = some (.ref f_law_draw_setting)
  f_law_draw_entries : Addr
  d_law_draw_entries : FuncData
  F_law_draw_entries : Fun K "_law_draw_entries" "_law_draw_entries" s_law_draw_entries f_law_draw_entries d_law_draw_entries
  b_law_draw_entries : Binds K d_law_draw_entries ["pen"] []
  g_law_draw_entries : mg "_law_draw_entries" = some (.ref f_law_draw_entries)
  f_law_draw_saying : Addr
  d_law_draw_saying : FuncData
  F_law_draw_saying : Fun K "_law_draw_saying" "_law_draw_saying" s_law_draw_saying f_law_draw_saying d_law_draw_saying
  b_law_draw_saying : Binds K d_law_draw_saying ["pen", "fixed", "entries"] []
  g_law_draw_saying : mg "_law_draw_saying" = some (.ref f_law_draw_saying)
  f_law_lines_for : Addr
  d_law_lines_for : FuncData
  F_law_lines_for : Fun K "_law_lines_for" "_law_lines_for" s_law_lines_for f_law_lines_for d_law_lines_for
  b_law_lines_for : Binds K d_law_lines_for ["field", "fixed", "entries", "required"] []
  g_law_lines_for : mg "_law_lines_for" = some (.ref f_law_lines_for)
  f_law_draw_lines_for : Addr
  d_law_draw_lines_for : FuncData
  F_law_draw_lines_for : Fun K "_law_draw_lines_for" "_law_draw_lines_for" s_law_draw_lines_for f_law_draw_lines_for d_law_draw_lines_for
  b_law_draw_lines_for : Binds K d_law_draw_lines_for ["pen", "fixed", "entries", "fields", "required"] []
  g_law_draw_lines_for : mg "_law_draw_lines_for" = some (.ref f_law_draw_lines_for)
  f_law : Addr
  d_law : FuncData
  F_law : Fun K "law" "law" s_law f_law d_law
  b_law : Binds K d_law ["script"] []
  g_law : mg "law" = some (.ref f_law)
  C_FieldError : Addr
  m_FieldError : Value
  B_FieldError : BaseC K mg "FieldError" C_FieldError m_FieldError
  R_FieldError : RootC K C_FieldError
  C_NoSetting : Addr
  P_NoSetting : PlainC K mg "NoSetting" C_NoSetting [.type "ValueError", .type "Exception", .type "BaseException", .type "object"]
  S_NoSetting : HeirC K C_NoSetting C_FieldError
  C_NoField : Addr
  P_NoField : PlainC K mg "NoField" C_NoField [.type "ValueError", .type "Exception", .type "BaseException", .type "object"]
  S_NoField : HeirC K C_NoField C_FieldError
  C_NoValue : Addr
  P_NoValue : PlainC K mg "NoValue" C_NoValue [.type "ValueError", .type "Exception", .type "BaseException", .type "object"]
  S_NoValue : HeirC K C_NoValue C_FieldError
  t_NUMBER_MOST : Tok
  g_NUMBER_MOST : mg "NUMBER_MOST" = some (.int 9999 t_NUMBER_MOST)
  t_NAME_MOST : Tok
  g_NAME_MOST : mg "NAME_MOST" = some (.int 20 t_NAME_MOST)
  t_VALUE_MOST : Tok
  g_VALUE_MOST : mg "VALUE_MOST" = some (.int 40 t_VALUE_MOST)
  t_FIELDS_MOST : Tok
  g_FIELDS_MOST : mg "FIELDS_MOST" = some (.int 16 t_FIELDS_MOST)
  t_FIXED_MOST : Tok
  g_FIXED_MOST : mg "FIXED_MOST" = some (.int 12 t_FIXED_MOST)
  t_ROOM_MOST : Tok
  g_ROOM_MOST : mg "ROOM_MOST" = some (.int 120 t_ROOM_MOST)
  t_WAITING_MOST : Tok
  g_WAITING_MOST : mg "WAITING_MOST" = some (.int 4 t_WAITING_MOST)
  t_VALUE_PREFIX : Tok
  g_VALUE_PREFIX : mg "VALUE_PREFIX" = some (.int 7 t_VALUE_PREFIX)
  a_CHARACTERS : Addr
  g_CHARACTERS : mg "CHARACTERS" = some (.ref a_CHARACTERS)
  CHARACTERS_d : IDict K a_CHARACTERS chars
  t_LINES_MOST : Tok
  g_LINES_MOST : mg "LINES_MOST" = some (.int 16 t_LINES_MOST)
  t_ENTRIES_MOST : Tok
  g_ENTRIES_MOST : mg "ENTRIES_MOST" = some (.int 24 t_ENTRIES_MOST)
  t_ENTRY_MOST : Tok
  g_ENTRY_MOST : mg "ENTRY_MOST" = some (.int 40 t_ENTRY_MOST)
  z_all : mg "all" = none
  z_bool : mg "bool" = none
  z_dict : mg "dict" = none
  z_enumerate : mg "enumerate" = none
  z_int : mg "int" = none
  z_isinstance : mg "isinstance" = none
  z_len : mg "len" = none
  z_list : mg "list" = none
  z_max : mg "max" = none
  z_min : mg "min" = none
  z_ord : mg "ord" = none
  z_range : mg "range" = none
  z_sorted : mg "sorted" = none
  z_str : mg "str" = none
  z_sum : mg "sum" = none
  z_tuple : mg "tuple" = none
theorem sc_is_between : FnScope ["thing", "least", "most"] ["thing", "least", "most"] (defScope s_is_between) := ⟨rfl, rfl, rfl, by decide +kernel, rfl, by decide +kernel, by decide +kernel⟩
theorem sc_is_number : FnScope ["thing"] ["thing"] (defScope s_is_number) := ⟨rfl, rfl, rfl, by decide +kernel, rfl, by decide +kernel, by decide +kernel⟩
theorem sc_is_text : FnScope ["thing", "least", "most", "character"] ["thing", "least", "most"] (defScope s_is_text) := ⟨rfl, rfl, rfl, by decide +kernel, rfl, by decide +kernel, by decide +kernel⟩
theorem sc_is_name : FnScope ["thing"] ["thing"] (defScope s_is_name) := ⟨rfl, rfl, rfl, by decide +kernel, rfl, by decide +kernel, by decide +kernel⟩
theorem sc_is_value : FnScope ["thing"] ["thing"] (defScope s_is_value) := ⟨rfl, rfl, rfl, by decide +kernel, rfl, by decide +kernel, by decide +kernel⟩
theorem sc_is_field : FnScope ["thing"] ["thing"] (defScope s_is_field) := ⟨rfl, rfl, rfl, by decide +kernel, rfl, by decide +kernel, by decide +kernel⟩
theorem sc_is_tuple_of_fields : FnScope ["thing", "most", "field"] ["thing", "most"] (defScope s_is_tuple_of_fields) := ⟨rfl, rfl, rfl, by decide +kernel, rfl, by decide +kernel, by decide +kernel⟩
theorem sc_are_fields : FnScope ["thing"] ["thing"] (defScope s_are_fields) := ⟨rfl, rfl, rfl, by decide +kernel, rfl, by decide +kernel, by decide +kernel⟩
theorem sc_is_setting : FnScope ["thing", "fixed", "room", "waiting"] ["thing"] (defScope s_is_setting) := ⟨rfl, rfl, rfl, by decide +kernel, rfl, by decide +kernel, by decide +kernel⟩
theorem sc_check_setting : FnScope ["setting"] ["setting"] (defScope s_check_setting) := ⟨rfl, rfl, rfl, by decide +kernel, rfl, by decide +kernel, by decide +kernel⟩
theorem sc_check_prefix : FnScope ["prefix", "mark"] ["prefix", "mark"] (defScope s_check_prefix) := ⟨rfl, rfl, rfl, by decide +kernel, rfl, by decide +kernel, by decide +kernel⟩
theorem sc_prefix_bits : FnScope ["prefix"] ["prefix"] (defScope s_prefix_bits) := ⟨rfl, rfl, rfl, by decide +kernel, rfl, by decide +kernel, by decide +kernel⟩
theorem sc_number_octets : FnScope ["number", "prefix", "mark", "bits", "octets", "rest"] ["number", "prefix", "mark"] (defScope s_number_octets) := ⟨rfl, rfl, rfl, by decide +kernel, rfl, by decide +kernel, by decide +kernel⟩
theorem sc_string_octets : FnScope ["text", "prefix", "mark", "character"] ["text", "prefix", "mark"] (defScope s_string_octets) := ⟨rfl, rfl, rfl, by decide +kernel, rfl, by decide +kernel, by decide +kernel⟩
theorem sc_value_octets : FnScope ["value"] ["value"] (defScope s_value_octets) := ⟨rfl, rfl, rfl, by decide +kernel, rfl, by decide +kernel, by decide +kernel⟩
theorem sc_is_line : FnScope ["thing", "required"] ["thing", "required"] (defScope s_is_line) := ⟨rfl, rfl, rfl, by decide +kernel, rfl, by decide +kernel, by decide +kernel⟩
theorem sc_is_block : FnScope ["thing", "required", "base", "lines", "line"] ["thing"] (defScope s_is_block) := ⟨rfl, rfl, rfl, by decide +kernel, rfl, by decide +kernel, by decide +kernel⟩
theorem sc_write_block : FnScope ["block", "required", "base", "lines", "octets", "line"] ["block"] (defScope s_write_block) := ⟨rfl, rfl, rfl, by decide +kernel, rfl, by decide +kernel, by decide +kernel⟩
theorem sc_line_octets : FnScope ["line", "base", "kind"] ["line", "base"] (defScope s_line_octets) := ⟨rfl, rfl, rfl, by decide +kernel, rfl, by decide +kernel, by decide +kernel⟩
theorem sc_whole_octets : FnScope ["kind", "number", "base"] ["kind", "number", "base"] (defScope s_whole_octets) := ⟨rfl, rfl, rfl, by decide +kernel, rfl, by decide +kernel, by decide +kernel⟩
theorem sc_named_octets : FnScope ["kind", "number", "base"] ["kind", "number", "base"] (defScope s_named_octets) := ⟨rfl, rfl, rfl, by decide +kernel, rfl, by decide +kernel, by decide +kernel⟩
theorem sc_are_entries : FnScope ["thing", "number"] ["thing"] (defScope s_are_entries) := ⟨rfl, rfl, rfl, by decide +kernel, rfl, by decide +kernel, by decide +kernel⟩
theorem sc_check_entries : FnScope ["entries"] ["entries"] (defScope s_check_entries) := ⟨rfl, rfl, rfl, by decide +kernel, rfl, by decide +kernel, by decide +kernel⟩
theorem sc_says : FnScope ["setting", "entries", "block"] ["setting", "entries", "block"] (defScope s_says) := ⟨rfl, rfl, rfl, by decide +kernel, rfl, by decide +kernel, by decide +kernel⟩
theorem sc_said_fields : FnScope ["fixed", "entries", "lines", "fields", "line"] ["fixed", "entries", "lines"] (defScope s_said_fields) := ⟨rfl, rfl, rfl, by decide +kernel, rfl, by decide +kernel, by decide +kernel⟩
theorem sc_said_field : FnScope ["fixed", "entries", "line", "field"] ["fixed", "entries", "line"] (defScope s_said_field) := ⟨rfl, rfl, rfl, by decide +kernel, rfl, by decide +kernel, by decide +kernel⟩
theorem sc_referred : FnScope ["fixed", "entries", "kind", "number"] ["fixed", "entries", "kind", "number"] (defScope s_referred) := ⟨rfl, rfl, rfl, by decide +kernel, rfl, by decide +kernel, by decide +kernel⟩
theorem sc_shortest : FnScope ["setting", "entries", "fields", "lengths", "required", "base", "octets"] ["setting", "entries", "fields"] (defScope s_shortest) := ⟨rfl, rfl, rfl, by decide +kernel, rfl, by decide +kernel, by decide +kernel⟩
theorem sc_checked_lengths : FnScope ["setting", "entries", "fields"] ["setting", "entries", "fields"] (defScope s_checked_lengths) := ⟨rfl, rfl, rfl, by decide +kernel, rfl, by decide +kernel, by decide +kernel⟩
theorem sc_fewest_octets : FnScope ["fixed", "entries", "fields", "lowest", "requireds", "number", "rows", "lengths", "required", "base", "field", "head", "row"] ["fixed", "entries", "fields", "lowest"] (defScope s_fewest_octets) := ⟨rfl, rfl, rfl, by decide +kernel, rfl, by decide +kernel, by decide +kernel⟩
theorem sc_best_pair : FnScope ["lengths", "pair"] ["lengths"] (defScope s_best_pair) := ⟨rfl, rfl, rfl, by decide +kernel, rfl, by decide +kernel, by decide +kernel⟩
theorem sc_best_block : FnScope ["fixed", "entries", "fields", "required", "base", "rows", "field", "row"] ["fixed", "entries", "fields", "required", "base"] (defScope s_best_block) := ⟨rfl, rfl, rfl, by decide +kernel, rfl, by decide +kernel, by decide +kernel⟩
theorem sc_best_choice : FnScope ["choices", "required", "choice"] ["choices", "required"] (defScope s_best_choice) := ⟨rfl, rfl, rfl, by decide +kernel, rfl, by decide +kernel, by decide +kernel⟩
theorem sc_best_choices : FnScope ["fixed", "entries", "field", "base", "kept", "choice"] ["fixed", "entries", "field", "base"] (defScope s_best_choices) := ⟨rfl, rfl, rfl, by decide +kernel, rfl, by decide +kernel, by decide +kernel⟩
theorem sc_line_choices : FnScope ["fixed", "entries", "field", "base", "name", "value", "line", "value_length", "choices", "required", "kind", "number", "other", "length"] ["fixed", "entries", "field", "base"] (defScope s_line_choices) := ⟨rfl, rfl, rfl, by decide +kernel, rfl, by decide +kernel, by decide +kernel⟩
theorem sc_referable : FnScope ["fixed", "entries", "number", "field"] ["fixed", "entries"] (defScope s_referable) := ⟨rfl, rfl, rfl, by decide +kernel, rfl, by decide +kernel, by decide +kernel⟩
theorem sc_law_open : FnScope ["script", "cells", "k", "cell"] ["script"] (defScope s_law_open) := ⟨rfl, rfl, rfl, by decide +kernel, rfl, by decide +kernel, by decide +kernel⟩
theorem sc_law_spread : FnScope ["cell", "at", "primes", "one", "two", "three"] ["cell", "at"] (defScope s_law_spread) := ⟨rfl, rfl, rfl, by decide +kernel, rfl, by decide +kernel, by decide +kernel⟩
theorem sc_law_take : FnScope ["pen", "amount", "at", "cell", "found"] ["pen", "amount"] (defScope s_law_take) := ⟨rfl, rfl, rfl, by decide +kernel, rfl, by decide +kernel, by decide +kernel⟩
theorem sc_law_one_of : FnScope ["pen", "some"] ["pen", "some"] (defScope s_law_one_of) := ⟨rfl, rfl, rfl, by decide +kernel, rfl, by decide +kernel, by decide +kernel⟩
theorem sc_law_signs : FnScope [] [] (defScope s_law_signs) := ⟨rfl, rfl, rfl, by decide +kernel, rfl, by decide +kernel, by decide +kernel⟩
theorem sc_law_draw_text : FnScope ["pen", "least", "most", "size", "k"] ["pen", "least", "most"] (defScope s_law_draw_text) := ⟨rfl, rfl, rfl, by decide +kernel, rfl, by decide +kernel, by decide +kernel⟩
theorem sc_law_draw_near_field : FnScope ["pen", "names", "values"] ["pen"] (defScope s_law_draw_near_field) := ⟨rfl, rfl, rfl, by decide +kernel, rfl, by decide +kernel, by decide +kernel⟩
theorem sc_law_draw_setting : FnScope ["pen", "fixed", "again"] ["pen"] (defScope s_law_draw_setting) := ⟨rfl, rfl, rfl, by decide +kernel, rfl, by decide +kernel, by decide +kernel⟩
theorem sc_law_draw_entries : FnScope ["pen", "first", "found", "again"] ["pen"] (defScope s_law_draw_entries) := ⟨rfl, rfl, rfl, by decide +kernel, rfl, by decide +kernel, by decide +kernel⟩
theorem sc_law_draw_saying : FnScope ["pen", "fixed", "entries", "some", "k", "number", "found", "again", "field"] ["pen", "fixed", "entries"] (defScope s_law_draw_saying) := ⟨rfl, rfl, rfl, by decide +kernel, rfl, by decide +kernel, by decide +kernel⟩
theorem sc_law_lines_for : FnScope ["field", "fixed", "entries", "required", "found", "k", "one", "number"] ["field", "fixed", "entries", "required"] (defScope s_law_lines_for) := ⟨rfl, rfl, rfl, by decide +kernel, rfl, by decide +kernel, by decide +kernel⟩
theorem sc_law_draw_lines_for : FnScope ["pen", "fixed", "entries", "fields", "required", "field"] ["pen", "fixed", "entries", "fields", "required"] (defScope s_law_draw_lines_for) := ⟨rfl, rfl, rfl, by decide +kernel, rfl, by decide +kernel, by decide +kernel⟩
theorem sc_law : FnScope ["script", "pen", "turn", "setting", "entries", "fields", "length", "octets", "lengths", "again", "required", "base", "block", "parts", "field", "fronts", "key", "gaps", "one", "fewer", "number", "plain"] ["script"] (defScope s_law) := ⟨rfl, rfl, rfl, by decide +kernel, rfl, by decide +kernel, by decide +kernel⟩
section
variable {P : Program} {w : World} {K : PySem.W.Frag} {mg : Str → Option Value} {base : Heap}
theorem ok_is_between (T : Txt K mg) : FnOk P w K mg base CX0 1 T.f_is_between T.d_is_between ["thing", "least", "most"] (sp_is_between K) := by
  refine T.F_is_between.ok sc_is_between (fun vs H Q E h => ?_) (fun cdv A outer s H vs Q E hr h => ?_)
  · obtain ⟨v, t, a, b, rfl, _⟩ := h
    rfl
  · obtain ⟨v, t, a, b, rfl, k, q⟩ := h
    refine ⟨_, (pss_one (ps_ret (pe_and (pe_callB call_isi rfl T.z_isinstance boot_isinstance (pa_cons (pv 0) (pa_cons (pe_bltn (v := .ty "int") rfl T.z_int boot_int rfl) pa_nil))) (pe_and (pe_not (pe_callB call_isi rfl T.z_isinstance boot_isinstance (pa_cons (pv 0) (pa_cons (pe_bltn (v := .ty "bool") rfl T.z_bool boot_bool rfl) pa_nil)))) (pe_one (pe_chain op_le op_le (pv 1) (pv 0) (pv 2))))))), ?_⟩
    refine ⟨_, rfl, _, _, _, _, _, rfl, .ty _, k.ty, k.kit, _, rfl, ifb (fun e => ?_) (fun e => ?_)⟩
    · refine ⟨_, rfl, _, _, _, _, _, rfl, .ty _, k.ty, k.kit, _, rfl, _, rfl, ifb (fun e2 => ?_) (fun e2 => ?_)⟩
      · have ei : t = "int" := by
          cases k <;> first | rfl | (exfalso; revert e e2; decide)
        cases k <;> first | (exact absurd ei (by decide)) | skip
        rename_i i
        refine ⟨_, rfl, _, rfl, _, _, rfl, rfl, _, rfl, ifb (fun e3 => ?_) (fun e3 => ?_)⟩
        · exact ⟨_, rfl, _, _, rfl, rfl, Q_bl q (by show (decide _ && decide _) = _; rw [e3]; rfl)⟩
        · exact Q_bl q (by show (decide _ && decide _) = _; rw [e3]; rfl)
      · refine Q_bl q ?_
        cases k <;> first | rfl | (exfalso; revert e e2; decide)
    · refine Q_bl q ?_
      cases k <;> first | rfl | (exfalso; revert e; decide)

theorem ok_is_number (T : Txt K mg) : FnOk P w K mg base CX0 2 T.f_is_number T.d_is_number ["thing"] (sp_is_number K) := by
  refine T.F_is_number.ok sc_is_number (fun vs H Q E h => ?_) (fun cdv A outer s H vs Q E hr h => ?_)
  · obtain ⟨v, t, rfl, _⟩ := h
    rfl
  · obtain ⟨v, t, rfl, k, q⟩ := h
    refine ⟨_, (pss_one (ps_ret (pe_call (ok_is_between T) (hr.mono (by decide)) rfl T.g_is_between T.F_is_between.kp T.b_is_between .nil pass0 (pa_cons (pv 0) (pa_cons pe_int (pa_cons (pe_glob (v := .int 9999) rfl T.g_NUMBER_MOST ⟨_, rfl⟩) pa_nil)))))), ?_⟩
    exact ⟨_, rfl, v, t, 0, 9999, rfl, k, q⟩
theorem ok_is_text (T : Txt K mg) : FnOk P w K mg base CX0 1 T.f_is_text T.d_is_text ["thing", "least", "most"] (sp_is_text K) := by
  refine T.F_is_text.ok sc_is_text (fun vs H Q E h => ?_) (fun cdv A outer s H vs Q E hr h => ?_)
  · obtain ⟨v, t, a, b, rfl, _⟩ := h
    rfl
  · obtain ⟨v, t, a, b, rfl, k, hz, q⟩ := h
    refine ⟨_, (pss_cons (ps_if (PW.pt (pw_or (pt_not (pt_val (pe_callB call_isi rfl T.z_isinstance boot_isinstance (pa_cons (pv 0) (pa_cons (pe_bltn (v := .ty "str") rfl T.z_str boot_str rfl) pa_nil))))) (pw_or1 (pt_not (pt_chain op_le op_le (pv 1) (pe_callB call_len rfl T.z_len boot_len (pa_cons (pv 0) pa_nil)) (pv 2)))))) (pss_one (ps_ret pe_bl)) pss_nil)
      (pss_one (ps_ret (pe_callB (cr_all rfl) rfl T.z_all boot_all (pa_cons (pe_lc (own := [("character", 3)]) (g := (gName 3)) (tt := tYes)  rfl sc_is_text.nd (pi_str (pv 0)) (blkOk_by (own := [("character", 3)]) (N := ["thing", "least", "most", "character"]) (sc := defScope s_is_text) (by decide +kernel)) (fun _ _ _ _ _ => (pg_name (i := 3) sc_is_text.nd rfl (Or.inl rfl))) (fun _ _ _ _ _ => pts_nil) (fun _ _ _ _ _ => (pe_cmpR (op_in_kdI T.CHARACTERS_d) (pe_callB call_ord rfl T.z_ord boot_ord (pa_cons (pv 3) pa_nil)) (pe_glob (v := .ref T.a_CHARACTERS) rfl T.g_CHARACTERS rfl) rfl))) pa_nil))))), ?_⟩
    refine ⟨_, rfl, _, _, _, _, _, rfl, .ty _, k.ty, k.kit, _, rfl, ?_⟩
    refine ifb (fun e => ?_) (fun e => ?_)
    · refine iteT ?_
      refine Q_bl (q H (Same.refl _)) ?_
      cases k <;> first | rfl | (exfalso; revert e; decide)
    · cases k <;> first | (exfalso; revert e; decide) | skip
      rename_i x
      have hx := hz x rfl
      refine ⟨_, rfl, _, rfl, _, _, rfl, ⟨len100 hx, rfl⟩, _, _, rfl, rfl, _, rfl, ifb (fun e2 => ?_) (fun e2 => ?_)⟩
      · refine ⟨_, rfl, _, _, rfl, rfl, _, rfl, ?_⟩
        refine ifb (fun e3 => ?_) (fun e3 => ?_)
        · refine Q_bl (q H (Same.refl _)) ?_
          show (_ && _ && _) = false
          have e3' : decide ((x.length : Int) ≤ b) = false := by simpa using e3
          rw [e3', Bool.and_false, Bool.false_and]
        · have e3' : decide ((x.length : Int) ≤ b) = true := by simpa using e3
          refine ⟨_, rfl, _, rfl, fun D hD => ?_⟩
          refine lc_map walk_str (fun i => V.bl (isChar (x.cps.toList.getD i 0))) (by show x.length ≤ 10000000; omega) hD (fun _ _ => True.intro) ?_ ?_
          · rintro i y H' H'' Q' Z hi s1 ⟨rfl, c, hc, rfl⟩ q'
            refine ⟨rfl, yesI ?_⟩
            refine ⟨_, rfl, _, rfl, rfl, _, rfl, rfl, ?_⟩
            have e4 : x.cps.toList.getD i 0 = c := getD_of 0 (cps_at hc)
            have e5 : (⟨#[c]⟩ : Str).cps.getD 0 0 = c := rfl
            have := q' H'' (Same.refl _)
            rw [e4] at this
            rw [e5, valI_chars]
            cases hcc : isChar c
            · rw [hcc] at this; exact this
            · rw [hcc] at this; exact this
          · intro H' s1 hD'
            refine ⟨_, x.cps.toList.map isChar, rfl, .inl (.inl ?_), ?_⟩
            · rw [hD']
              have : (List.range x.cps.size).map (fun i => V.bl (isChar (x.cps.toList.getD i 0))) = (x.cps.toList.map isChar).map V.bl := by
                rw [List.map_map]
                exact range_map x.cps.toList (fun c => V.bl (isChar c)) 0
              rw [this]
            · refine Q_bl (q H' s1) ?_
              show (_ && _ && _) = _
              rw [e2, e3']
              simp [List.all_map]
      · refine ⟨_, rfl, ?_⟩
        refine iteT ?_
        refine Q_bl (q H (Same.refl _)) ?_
        show (_ && _ && _) = false
        rw [e2, Bool.false_and, Bool.false_and]
theorem ok_is_value (T : Txt K mg) : FnOk P w K mg base CX0 2 T.f_is_value T.d_is_value ["thing"] (sp_is_value K) := by
  refine T.F_is_value.ok sc_is_value (fun vs H Q E h => ?_) (fun cdv A outer s H vs Q E hr h => ?_)
  · obtain ⟨v, t, rfl, _⟩ := h
    rfl
  · obtain ⟨v, t, rfl, k, hz, q⟩ := h
    refine ⟨_, (pss_one (ps_ret (pe_call (ok_is_text T) (hr.mono (by decide)) rfl T.g_is_text T.F_is_text.kp T.b_is_text .nil pass0 (pa_cons (pv 0) (pa_cons pe_int (pa_cons (pe_glob (v := .int 40) rfl T.g_VALUE_MOST ⟨_, rfl⟩) pa_nil)))))), ?_⟩
    exact ⟨_, rfl, v, t, 0, 40, rfl, k, hz, q⟩
theorem ok_prefix_bits (T : Txt K mg) : FnOk P w K mg base CX0 1 T.f_prefix_bits T.d_prefix_bits ["prefix"] sp_prefix_bits := by
  refine T.F_prefix_bits.ok sc_prefix_bits (fun vs H Q E h => ?_) (fun cdv A outer s H vs Q E hr h => ?_)
  · obtain ⟨b, rfl, _⟩ := h
    rfl
  · obtain ⟨b, rfl, hb, q⟩ := h
    refine ⟨_, (pss_one (ps_ret (pe_op op_sub (pe_op op_shl pe_int (pv 0)) pe_int))), ?_⟩
    refine ⟨_, rfl, _, _, rfl, rfl, ⟨by omega, by omega, by decide⟩, _, _, rfl, rfl, ?_⟩
    refine Q_int q ?_
    rw [Int.toNat_natCast, Int.one_mul]

theorem ok_check_prefix (T : Txt K mg) : FnOk P w K mg base CX0 2 T.f_check_prefix T.d_check_prefix ["prefix", "mark"] sp_check_prefix := by
  refine T.F_check_prefix.ok sc_check_prefix (fun vs H Q E h => ?_) (fun cdv A outer s H vs Q E hr h => ?_)
  · obtain ⟨b, m, rfl, _⟩ := h
    rfl
  · obtain ⟨b, m, rfl, ⟨hb1, hb8, hm, hz⟩, q⟩ := h
    refine ⟨_, (pss_cons (ps_if (pt_not (pt_val (pe_call (ok_is_between T) (hr.mono (by decide)) rfl T.g_is_between T.F_is_between.kp T.b_is_between .nil pass0 (pa_cons (pv 0) (pa_cons pe_int (pa_cons pe_int pa_nil)))))) (pss_one ps_never) pss_nil)
      (pss_one (ps_if (PW.pt (pw_or (pt_not (pt_val (pe_call (ok_is_between T) (hr.mono (by decide)) rfl T.g_is_between T.F_is_between.kp T.b_is_between .nil pass0 (pa_cons (pv 1) (pa_cons pe_int (pa_cons pe_int pa_nil)))))) (pw_or1 (pt_cmpR op_ne (pe_op op_and (pv 1) (pe_call (ok_prefix_bits T) (hr.mono (by decide)) rfl T.g_prefix_bits T.F_prefix_bits.kp T.b_prefix_bits .nil pass0 (pa_cons (pv 0) pa_nil))) pe_int (nomark _))))) (pss_one ps_never) pss_nil))), ?_⟩
    refine ⟨_, rfl, .int b, "int", 1, 8, rfl, .int _, _, rfl, ?_⟩
    have e1 : btw (.int (b : Nat)) 1 8 = true := btw_t (by omega) (by omega)
    refine ifF (by rw [e1]; rfl) ?_
    have e2 : btw (.int (m : Nat)) 0 255 = true := btw_t (by omega) (by omega)
    refine ⟨_, rfl, .int m, "int", 0, 255, rfl, .int _, _, rfl, ?_⟩
    refine ifF (by rw [e2]; rfl) ?_
    refine ⟨_, rfl, _, rfl, b, rfl, by omega, _, _, rfl, rfl, rfl, _, rfl, ?_⟩
    refine ifF ?_ q
    rw [bits_cast]
    show (!decide (V.int (Builtin.bitAnd (m : Int) ((2 ^ b - 1 : Nat) : Int)) = V.int 0)) = false
    rw [hz]
    rfl
theorem ok_number_octets (T : Txt K mg) : FnOk P w K mg base CX0 3 T.f_number_octets T.d_number_octets ["number", "prefix", "mark"] sp_number_octets := by
  refine T.F_number_octets.ok sc_number_octets (fun vs H Q E h => ?_) (fun cdv A outer s H vs Q E hr h => ?_)
  · obtain ⟨n, b, m, rfl, _⟩ := h
    rfl
  · obtain ⟨n, b, m, rfl, hn, M, q⟩ := h
    obtain ⟨hb1, hb8, hm, hz⟩ := id M
    refine ⟨_, (pss_cons (ps_if (pt_not (pt_val (pe_call (ok_is_number T) (hr.mono (by decide)) rfl T.g_is_number T.F_is_number.kp T.b_is_number .nil pass0 (pa_cons (pv 0) pa_nil)))) (pss_one ps_never) pss_nil)
      (pss_cons (ps_expr (pe_call (ok_check_prefix T) (hr.mono (by decide)) rfl T.g_check_prefix T.F_check_prefix.kp T.b_check_prefix .nil pass0 (pa_cons (pv 1) (pa_cons (pv 2) pa_nil))))
      (pss_cons (ps_set (i := 3) sc_number_octets.nd rfl (Or.inl rfl) (pe_call (ok_prefix_bits T) (hr.mono (by decide)) rfl T.g_prefix_bits T.F_prefix_bits.kp T.b_prefix_bits .nil pass0 (pa_cons (pv 1) pa_nil)))
      (pss_cons (ps_if (pt_cmpR op_lt (pv 0) (pv 3) (nomark _)) (pss_one (ps_ret (pe_lst (pa_cons (pe_op op_add (pv 2) (pv 0)) pa_nil)))) pss_nil)
      (pss_cons (ps_set (i := 4) sc_number_octets.nd rfl (Or.inl rfl) (pe_lst (pa_cons (pe_op op_add (pv 2) (pv 3)) pa_nil)))
      (pss_cons (ps_set (i := 5) sc_number_octets.nd rfl (Or.inl rfl) (pe_op op_sub (pv 0) (pv 3)))
      (pss_cons (ps_while PassesOwn.never (pt_cmpR op_ge (pv 5) pe_int (nomark _))
        (pss_cons (ps_expr (pe_bm PySem.F.plainAttrs_list PySem.F.slot_list_append PySem.F.type_list_append mt_append (pv 4) (pa_cons (pe_op op_add pe_int (pe_op op_and (pv 5) pe_int)) pa_nil)))
      (pss_one (ps_set (i := 5) sc_number_octets.nd rfl (Or.inl rfl) (pe_op op_shr (pv 5) pe_int)))))
      (pss_cons (ps_expr (pe_bm PySem.F.plainAttrs_list PySem.F.slot_list_append PySem.F.type_list_append mt_append (pv 4) (pa_cons (pv 5) pa_nil)))
      (pss_one (ps_ret (pv 4))))))))))), ?_⟩
    have e1 : btw (.int (n : Nat)) 0 9999 = true := btw_t (by omega) (by omega)
    refine ⟨_, rfl, .int n, "int", rfl, .int _, _, rfl, ?_⟩
    refine ifF (by rw [e1]; rfl) ?_
    refine ⟨_, rfl, _, rfl, b, m, rfl, M, ?_⟩
    refine ⟨_, rfl, b, rfl, by omega, ?_⟩
    refine ⟨_, rfl, _, rfl, _, _, rfl, rfl, _, rfl, ?_⟩
    have hp := pow_pos2 b
    have hp8 := pow_le8 hb8
    have eb := bits_cast b
    by_cases c : n < 2 ^ b - 1
    · refine ifT (decide_eq_true (by rw [eb]; omega)) ?_
      refine ⟨_, rfl, _, rfl, _, _, rfl, rfl, (by show 1 ≤ sizeLine; rw [sizeLine_eq]; omega), fun p hp' => ?_⟩
      refine q p _ hp' (Same.new hp') ?_
      rw [upd_same]
      unfold numOct
      rw [if_pos c]
      rfl
    · refine ifF (decide_eq_false (by rw [eb]; omega)) ?_
      refine ⟨_, rfl, _, rfl, _, _, rfl, rfl, (by show 1 ≤ sizeLine; rw [sizeLine_eq]; omega), fun p hp' => ?_⟩
      refine ⟨_, rfl, _, rfl, _, _, rfl, rfl, ?_⟩
      have eN : numOct n b m = [((m + (2 ^ b - 1) : Nat) : Int)] ++ restOct (n - (2 ^ b - 1)) := by
        unfold numOct
        rw [if_neg c]
        rfl
      have hl := numOct_len n b m
      refine ⟨fun k σ H' => ∃ acc : List Int, σ = [some (.int (n : Nat)), some (.int (b : Nat)), some (.int (m : Nat)), some (.int (2 ^ b - 1)), some (.ref p), some (.int (k : Nat))] ∧ Same H H' ∧ H' p = some (.lst (acc.map V.int)) ∧ acc ++ restOct k = numOct n b m,
        ⟨n - (2 ^ b - 1), [((m + (2 ^ b - 1) : Nat) : Int)], ?_, Same.new hp', ?_, eN.symm⟩, ?_⟩
      · have e : ((n : Int) - (2 ^ b - 1)) = ((n - (2 ^ b - 1) : Nat) : Int) := by rw [eb]; omega
        rw [← e]
        rfl
      · rw [upd_same, eb]
        rfl
      · rintro k σ H' ⟨acc, rfl, s1, hl', ha⟩
        refine ⟨_, rfl, _, _, rfl, rfl, _, rfl, ?_⟩
        by_cases ck : k < 128
        · refine ifF (decide_eq_false (by omega)) ?_
          refine ⟨_, rfl, .inl ⟨rfl, _, SqL.of hl'⟩, _, rfl, p, _, _, rfl, rfl, hl', ?_, ?_⟩
          · rw [List.length_map, sizeLine_eq]
            have : acc.length ≤ (numOct n b m).length := by rw [← ha]; simp
            omega
          · refine ⟨_, rfl, ?_⟩
            refine q p _ hp' (s1.put hp') ?_
            rw [upd_same, ← ha, restOct_lt ck, List.map_append]
            rfl
        · refine ifT (decide_eq_true (by omega)) ?_
          refine ⟨fun σ' H'' => ∃ acc : List Int, σ' = [some (.int (n : Nat)), some (.int (b : Nat)), some (.int (m : Nat)), some (.int (2 ^ b - 1)), some (.ref p), some (.int ((k / 128 : Nat) : Int))] ∧ Same H H'' ∧ H'' p = some (.lst (acc.map V.int)) ∧ acc ++ restOct (k / 128) = numOct n b m,
            fun σ' H'' h => ⟨k / 128, by omega, h⟩, ?_⟩
          refine ⟨_, rfl, .inl ⟨rfl, _, SqL.of hl'⟩, _, rfl, _, _, rfl, rfl, _, _, rfl, rfl, p, _, _, rfl, rfl, hl', ?_, ?_⟩
          · rw [List.length_map, sizeLine_eq]
            have : acc.length ≤ (numOct n b m).length := by rw [← ha]; simp
            omega
          · refine ⟨_, rfl, _, _, rfl, rfl, (by show (0 : Int) ≤ 7; decide), ?_⟩
            refine ⟨acc ++ [128 + (k : Int) % 128], ?_, s1.put hp', ?_, ?_⟩
            · have e : ((k : Int) / 2 ^ (7 : Int).toNat) = ((k / 128 : Nat) : Int) := by
                show (k : Int) / 128 = _
                omega
              rw [← e]
              rfl
            · rw [upd_same, and127 (by omega), List.map_append]
              rfl
            · rw [← ha, restOct_ge ck, List.append_assoc]
              rfl

theorem ok_string_octets (T : Txt K mg) : FnOk P w K mg base CX0 4 T.f_string_octets T.d_string_octets ["text", "prefix", "mark"] sp_string_octets := by
  refine T.F_string_octets.ok sc_string_octets (fun vs H Q E h => ?_) (fun cdv A outer s H vs Q E hr h => ?_)
  · obtain ⟨x, b, m, rfl, _⟩ := h
    rfl
  · obtain ⟨x, b, m, rfl, ht, M, q⟩ := h
    refine ⟨_, (pss_cons (ps_if (pt_not (pt_val (pe_call (ok_is_value T) (hr.mono (by decide)) rfl T.g_is_value T.F_is_value.kp T.b_is_value .nil pass0 (pa_cons (pv 0) pa_nil)))) (pss_one ps_never) pss_nil)
      (pss_one (ps_ret (pe_op op_cat (pe_call (ok_number_octets T) (hr.mono (by decide)) rfl T.g_number_octets T.F_number_octets.kp T.b_number_octets .nil pass0 (pa_cons (pe_callB call_len rfl T.z_len boot_len (pa_cons (pv 0) pa_nil)) (pa_cons (pv 1) (pa_cons (pv 2) pa_nil)))) (pe_lc (own := [("character", 3)]) (g := (gName 3)) (tt := tYes)  rfl sc_string_octets.nd (pi_str (pv 0)) (blkOk_by (own := [("character", 3)]) (N := ["text", "prefix", "mark", "character"]) (sc := defScope s_string_octets) (by decide +kernel)) (fun _ _ _ _ _ => (pg_name (i := 3) sc_string_octets.nd rfl (Or.inl rfl))) (fun _ _ _ _ _ => pts_nil) (fun _ _ _ _ _ => (pe_callB call_ord rfl T.z_ord boot_ord (pa_cons (pv 3) pa_nil)))))))), ?_⟩
    have hl := txt_len ht
    refine ⟨_, rfl, .str x, "str", rfl, .str _, fun y e => ?_, fun H1 s1 => ?_⟩
    · cases e; omega
    refine ⟨_, rfl, ?_⟩
    refine ifF (by rw [ht]; rfl) ?_
    refine ⟨_, rfl, _, _, rfl, ⟨len100 (by omega), rfl⟩, ?_⟩
    refine ⟨_, rfl, _, rfl, x.length, b, m, rfl, by omega, M, fun p H2 hp s2 hp2 => ?_⟩
    have hz := numOct_len x.length b m
    refine ⟨_, rfl, _, rfl, fun D hD => ?_⟩
    refine lc_map walk_str (fun i => V.int ((x.cps.toList.getD i 0 : Nat) : Int)) (by show x.length ≤ 10000000; omega) hD (fun _ _ => True.intro) ?_ ?_
    · rintro i y H' H'' Q' Z hi s3 ⟨rfl, c, hc, rfl⟩ q'
      refine ⟨rfl, yesI ?_⟩
      refine ⟨_, rfl, _, rfl, rfl, ?_⟩
      have e4 : x.cps.toList.getD i 0 = c := getD_of 0 (cps_at hc)
      have := q' H'' (Same.refl _)
      rw [e4] at this
      exact this
    · intro H' s3 hD'
      have e5 : (List.range x.cps.size).map (fun i => V.int ((x.cps.toList.getD i 0 : Nat) : Int)) = (x.cps.toList.map fun (c : Nat) => (c : Int)).map V.int := by
        rw [List.map_map]
        exact range_map x.cps.toList (fun (c : Nat) => V.int (c : Int)) 0
      rw [e5] at hD'
      refine ⟨_, _, _, _, rfl, rfl, s3 _ _ hp2, hD', ?_, fun r hr' => ?_⟩
      · rw [List.length_map, List.length_map, List.length_map, ← str_len, sizeLine_eq]
        omega
      · refine q r _ ((s1.trans s2).trans s3 |>.free hr') ((s1.trans s2).trans s3 |>.put ((s1.trans s2).trans s3 |>.free hr')) ?_
        rw [upd_same, List.map_append]
theorem ok_is_name (T : Txt K mg) : FnOk P w K mg base CX0 2 T.f_is_name T.d_is_name ["thing"] (sp_is_name K) := by
  refine T.F_is_name.ok sc_is_name (fun vs H Q E h => ?_) (fun cdv A outer s H vs Q E hr h => ?_)
  · obtain ⟨v, t, rfl, _⟩ := h
    rfl
  · obtain ⟨v, t, rfl, k, hz, q⟩ := h
    refine ⟨_, (pss_one (ps_ret (pe_call (ok_is_text T) (hr.mono (by decide)) rfl T.g_is_text T.F_is_text.kp T.b_is_text .nil pass0 (pa_cons (pv 0) (pa_cons pe_int (pa_cons (pe_glob (v := .int 20) rfl T.g_NAME_MOST ⟨_, rfl⟩) pa_nil)))))), ?_⟩
    exact ⟨_, rfl, v, t, 1, 20, rfl, k, hz, q⟩
theorem ok_value_octets (T : Txt K mg) : FnOk P w K mg base CX0 5 T.f_value_octets T.d_value_octets ["value"] (sp_value_octets) := by
  refine T.F_value_octets.ok sc_value_octets (fun vs H Q E h => ?_) (fun cdv A outer s H vs Q E hr h => ?_)
  · obtain ⟨x, rfl, _⟩ := h
    rfl
  · obtain ⟨x, rfl, hx, q⟩ := h
    refine ⟨_, (pss_one (ps_ret (pe_call (ok_string_octets T) (hr.mono (by decide)) rfl T.g_string_octets T.F_string_octets.kp T.b_string_octets .nil pass0 (pa_cons (pv 0) (pa_cons (pe_glob (v := .int 7) rfl T.g_VALUE_PREFIX ⟨_, rfl⟩) (pa_cons pe_int pa_nil)))))), ?_⟩
    exact ⟨_, rfl, x, 7, 0, rfl, hx, ⟨by decide, by decide, by decide, by decide +kernel⟩, q⟩
theorem ok_is_field (T : Txt K mg) : FnOk P w K mg base CX0 3 T.f_is_field T.d_is_field ["thing"] (sp_chk K dField) := by
  refine T.F_is_field.ok sc_is_field (fun vs H Q E h => ?_) (fun cdv A outer s H vs Q E hr h => ?_)
  · obtain ⟨v, d, rfl, _⟩ := h
    rfl
  · obtain ⟨v, d, rfl, hv, hw, q⟩ := h
    refine ⟨_, (pss_one (ps_ret (pe_and (pe_callB call_isi rfl T.z_isinstance boot_isinstance (pa_cons (pv 0) (pa_cons (pe_bltn (v := .ty "tuple") rfl T.z_tuple boot_tuple rfl) pa_nil))) (pe_and (pe_cmpR op_eq (pe_callB call_len rfl T.z_len boot_len (pa_cons (pv 0) pa_nil)) pe_int (nomark _)) (pe_and (pe_call (ok_is_name T) (hr.mono (by decide)) rfl T.g_is_name T.F_is_name.kp T.b_is_name .nil pass0 (pa_cons (pe_ix ix_tup (pv 0) pe_int (fun _ _ => rfl)) pa_nil)) (pe_one (pe_call (ok_is_value T) (hr.mono (by decide)) rfl T.g_is_value T.F_is_value.kp T.b_is_value .nil pass0 (pa_cons (pe_ix ix_tup (pv 0) pe_int (fun _ _ => rfl)) pa_nil)))))))), ?_⟩
    have k := hv.kind
    refine ⟨_, rfl, _, _, _, _, _, rfl, .ty _, k.ty, k.kit, _, rfl, ifb (fun e => ?_) (fun e => ?_)⟩
    · obtain ⟨a, xs, ds, rfl, rfl, hs, ha⟩ := hv.asT e
      refine ⟨_, rfl, _, _, rfl, .inr ⟨_, hs, rfl⟩, rfl, _, rfl, ifb (fun e2 => ?_) (fun e2 => ?_)⟩
      · obtain ⟨x0, x1, d0, d1, rfl, rfl, h0, h1⟩ := len2 ha (nAt (m := 2) e2)
        have w0 := w_tup (d := d0) (by simp) hw
        have w1 := w_tup (d := d1) (by simp) hw
        refine ⟨_, rfl, _, _, _, _, rfl, rfl, hs, rfl, x0, _, rfl, h0.kind, h0.strLe w0, fun H1 s1 => ⟨_, rfl, ifb (fun e3 => ?_) (fun e3 => ?_)⟩⟩
        · refine ⟨_, rfl, _, _, _, _, rfl, rfl, s1.tup hs, rfl, x1, _, rfl, (h1.keep s1).kind, h1.strLe w1, fun H2 s2 => ?_⟩
          refine Q_bl (q H2 (s1.trans s2)) ?_
          rw [h0.txt] at e3
          rw [h1.txt]
          show (dTxt d0 1 20 && dTxt d1 0 40) = _
          rw [e3]; rfl
        · refine Q_bl (q H1 s1) ?_
          rw [h0.txt] at e3
          show (dTxt d0 1 20 && dTxt d1 0 40) = _
          rw [e3]; rfl
      · exact Q_bl (q H (Same.refl _)) (dField_ne (by rw [← ha.len]; exact nNe (m := 2) e2))
    · exact Q_bl (q H (Same.refl _)) (dField_no e)
theorem ok_is_tuple_of_fields (T : Txt K mg) : FnOk P w K mg base CX0 4 T.f_is_tuple_of_fields T.d_is_tuple_of_fields ["thing", "most"] (sp_chkM K dFields) := by
  refine T.F_is_tuple_of_fields.ok sc_is_tuple_of_fields (fun vs H Q E h => ?_) (fun cdv A outer s H vs Q E hr h => ?_)
  · obtain ⟨v, d, m, rfl, _⟩ := h
    rfl
  · obtain ⟨v, d, m, rfl, hv, hw, q⟩ := h
    refine ⟨_, (pss_cons (ps_if (PW.pt (pw_or (pt_not (pt_val (pe_callB call_isi rfl T.z_isinstance boot_isinstance (pa_cons (pv 0) (pa_cons (pe_bltn (v := .ty "tuple") rfl T.z_tuple boot_tuple rfl) pa_nil))))) (pw_or1 (pt_cmpR op_gt (pe_callB call_len rfl T.z_len boot_len (pa_cons (pv 0) pa_nil)) (pv 1) (nomark _))))) (pss_one (ps_ret pe_bl)) pss_nil)
      (pss_one (ps_ret (pe_callB (cr_all rfl) rfl T.z_all boot_all (pa_cons (pe_lc (own := [("field", 2)]) (g := (gName 2)) (tt := tYes)  rfl sc_is_tuple_of_fields.nd (pi_tup (pv 0)) (blkOk_by (own := [("field", 2)]) (N := ["thing", "most", "field"]) (sc := defScope s_is_tuple_of_fields) (by decide +kernel)) (fun _ _ _ _ _ => (pg_name (i := 2) sc_is_tuple_of_fields.nd rfl (Or.inl rfl))) (fun _ _ _ _ _ => pts_nil) (fun _ _ _ _ _ => (pe_call (ok_is_field T) (hr.mono (by decide)) rfl T.g_is_field T.F_is_field.kp T.b_is_field .nil pass0 (pa_cons (pv 2) pa_nil)))) pa_nil))))), ?_⟩
    have k := hv.kind
    refine ⟨_, rfl, _, _, _, _, _, rfl, .ty _, k.ty, k.kit, _, rfl, ?_⟩
    refine ifb (fun e => ?_) (fun e => ?_)
    · exact iteT (Q_bl (q H (Same.refl _)) (dFields_no (nb e)))
    · obtain ⟨a, xs, ds, rfl, rfl, hs, ha⟩ := hv.asT (nb' e)
      have hlen := ha.len
      refine ⟨_, rfl, _, _, rfl, .inr ⟨_, hs, rfl⟩, _, rfl, _, _, rfl, rfl, _, rfl, ifb (fun e2 => ?_) (fun e2 => ?_)⟩
      · refine Q_bl (q H (Same.refl _)) ?_
        have e2' : (m : Int) < (xs.length : Int) := by simpa using e2
        show (decide (ds.length ≤ m) && _) = false
        rw [decide_eq_false (by omega), Bool.false_and]
      · have e2' : ¬ ((m : Int) < (xs.length : Int)) := by simpa using e2
        refine ⟨_, rfl, a, rfl, ⟨xs, hs⟩, fun D hD => ?_⟩
        refine lc_map (walk_tup (xs := xs)) (fun i => V.bl (dField (ds.getD i .none))) (by have := w_tupLen hw; omega) hD (fun _ s1 => s1.tup hs) ?_ ?_
        · rintro i y H' H'' Q' Z hi s1 ⟨rfl, hy⟩ q'
          refine ⟨rfl, yesI ?_⟩
          obtain ⟨d, hd, hdv⟩ := ha.at hy
          refine ⟨_, rfl, y, d, rfl, hdv.keep s1, w_tup (List.mem_of_getElem? hd) hw, fun H4 s4 => ?_⟩
          have := q' H4 s4
          rw [getD_of .none hd] at this
          exact this
        · intro H' s1 hD'
          refine ⟨_, ds.map dField, rfl, .inl (.inl (by rw [hD', tests_of dField ha])), ?_⟩
          refine Q_bl (q H' s1) ?_
          show (decide (ds.length ≤ m) && ds.all dField) = _
          rw [decide_eq_true (by omega), Bool.true_and, all_id]
theorem ok_are_fields (T : Txt K mg) : FnOk P w K mg base CX0 5 T.f_are_fields T.d_are_fields ["thing"] (sp_chk K (dFields 16)) := by
  refine T.F_are_fields.ok sc_are_fields (fun vs H Q E h => ?_) (fun cdv A outer s H vs Q E hr h => ?_)
  · obtain ⟨v, d, rfl, _⟩ := h
    rfl
  · obtain ⟨v, d, rfl, hv, hw, q⟩ := h
    refine ⟨_, (pss_one (ps_ret (pe_call (ok_is_tuple_of_fields T) (hr.mono (by decide)) rfl T.g_is_tuple_of_fields T.F_is_tuple_of_fields.kp T.b_is_tuple_of_fields .nil pass0 (pa_cons (pv 0) (pa_cons (pe_glob (v := .int 16) rfl T.g_FIELDS_MOST ⟨_, rfl⟩) pa_nil))))), ?_⟩
    exact ⟨_, rfl, v, d, 16, rfl, hv, hw, q⟩
theorem ok_is_setting (T : Txt K mg) : FnOk P w K mg base CX0 5 T.f_is_setting T.d_is_setting ["thing"] (sp_chk K dSetting) := by
  refine T.F_is_setting.ok sc_is_setting (fun vs H Q E h => ?_) (fun cdv A outer s H vs Q E hr h => ?_)
  · obtain ⟨v, d, rfl, _⟩ := h
    rfl
  · obtain ⟨v, d, rfl, hv, hw, q⟩ := h
    refine ⟨_, (pss_cons (ps_if (PW.pt (pw_or (pt_not (pt_val (pe_callB call_isi rfl T.z_isinstance boot_isinstance (pa_cons (pv 0) (pa_cons (pe_bltn (v := .ty "tuple") rfl T.z_tuple boot_tuple rfl) pa_nil))))) (pw_or1 (pt_cmpR op_ne (pe_callB call_len rfl T.z_len boot_len (pa_cons (pv 0) pa_nil)) pe_int (nomark _))))) (pss_one (ps_ret pe_bl)) pss_nil)
      (pss_cons (ps_asg (pv 0) (pg_tup rfl (pgs_cons (pg_name (i := 1) sc_is_setting.nd rfl (Or.inl rfl)) (pgs_cons (pg_name (i := 2) sc_is_setting.nd rfl (Or.inl rfl)) (pgs_cons (pg_name (i := 3) sc_is_setting.nd rfl (Or.inl rfl)) pgs_nil)))))
      (pss_cons (ps_if (pt_not (pt_val (pe_call (ok_is_tuple_of_fields T) (hr.mono (by decide)) rfl T.g_is_tuple_of_fields T.F_is_tuple_of_fields.kp T.b_is_tuple_of_fields .nil pass0 (pa_cons (pv 1) (pa_cons (pe_glob (v := .int 12) rfl T.g_FIXED_MOST ⟨_, rfl⟩) pa_nil))))) (pss_one (ps_ret pe_bl)) pss_nil)
      (pss_one (ps_ret (pe_and (pe_call (ok_is_between T) (hr.mono (by decide)) rfl T.g_is_between T.F_is_between.kp T.b_is_between .nil pass0 (pa_cons (pv 2) (pa_cons pe_int (pa_cons (pe_glob (v := .int 120) rfl T.g_ROOM_MOST ⟨_, rfl⟩) pa_nil)))) (pe_one (pe_call (ok_is_between T) (hr.mono (by decide)) rfl T.g_is_between T.F_is_between.kp T.b_is_between .nil pass0 (pa_cons (pv 3) (pa_cons pe_int (pa_cons (pe_glob (v := .int 4) rfl T.g_WAITING_MOST ⟨_, rfl⟩) pa_nil))))))))))), ?_⟩
    have k := hv.kind
    refine ⟨_, rfl, _, _, _, _, _, rfl, .ty _, k.ty, k.kit, _, rfl, ?_⟩
    refine ifb (fun e => ?_) (fun e => ?_)
    · exact iteT (Q_bl (q H (Same.refl _)) (dSetting_no (nb e)))
    · obtain ⟨a, xs, ds, rfl, rfl, hs, ha⟩ := hv.asT (nb' e)
      refine ⟨_, rfl, _, _, rfl, .inr ⟨_, hs, rfl⟩, rfl, _, rfl, ifb (fun e2 => ?_) (fun e2 => ?_)⟩
      · exact Q_bl (q H (Same.refl _)) (dSetting_ne (by rw [← ha.len]; exact nNe (m := 3) (nb e2)))
      · obtain ⟨x0, x1, x2, d0, d1, d2, rfl, rfl, h0, h1, h2⟩ := len3 ha (nAt (m := 3) (nb' e2))
        have w0 := w_tup (d := d0) (by simp) hw
        refine ⟨_, rfl, a, _, rfl, hs, rfl, ⟨_, _, rfl, ⟨_, _, rfl, ⟨_, _, rfl, rfl, ?_⟩⟩⟩⟩
        refine ⟨_, rfl, x0, d0, 12, rfl, h0, w0, fun H1 s1 => ⟨_, rfl, ifb (fun e3 => ?_) (fun e3 => ?_)⟩⟩
        · refine Q_bl (q H1 s1) ?_
          have e4 : dFields 12 d0 = false := by simpa using e3
          show (dFields 12 d0 && _ && _) = false
          rw [e4]; rfl
        · have e4 : dFields 12 d0 = true := by simpa using e3
          refine ⟨_, rfl, x1, _, 0, 120, rfl, (h1.keep s1).kind, _, rfl, ifb (fun e5 => ?_) (fun e5 => ?_)⟩
          · refine ⟨_, rfl, x2, _, 0, 4, rfl, (h2.keep s1).kind, Q_bl (q H1 s1) ?_⟩
            rw [h1.btw] at e5
            rw [h2.btw]
            show (dFields 12 d0 && dBtw d1 0 120 && dBtw d2 0 4) = _
            rw [e4, e5]; rfl
          · refine Q_bl (q H1 s1) ?_
            rw [h1.btw] at e5
            show (dFields 12 d0 && dBtw d1 0 120 && dBtw d2 0 4) = _
            rw [e4, e5]; rfl

theorem ok_is_line (T : Txt K mg) : FnOk P w K mg base CX0 3 T.f_is_line T.d_is_line ["thing", "required"] (sp_is_line K) := by
  refine T.F_is_line.ok sc_is_line (fun vs H Q E h => ?_) (fun cdv A outer s H vs Q E hr h => ?_)
  · obtain ⟨v, l, r, rfl, _⟩ := h
    rfl
  · obtain ⟨v, l, r, rfl, ⟨a, rfl, hs⟩, ok, q⟩ := h
    refine ⟨_, (pss_cons (ps_if (PW.pt (pw_or (pt_not (pt_val (pe_callB call_isi rfl T.z_isinstance boot_isinstance (pa_cons (pv 0) (pa_cons (pe_bltn (v := .ty "tuple") rfl T.z_tuple boot_tuple rfl) pa_nil))))) (pw_or1 (pt_cmpR op_notIn_seq (pe_callB call_len rfl T.z_len boot_len (pa_cons (pv 0) pa_nil)) (pe_tup (pa_cons pe_int (pa_cons pe_int pa_nil))) rfl)))) (pss_one (ps_ret pe_bl)) pss_nil)
      (pss_cons (ps_if (PW.pt (pw_and (pt_cmpR op_eq (pe_callB call_len rfl T.z_len boot_len (pa_cons (pv 0) pa_nil)) pe_int (nomark _)) (pw_and1 (pt_not (pt_val (pe_call (ok_is_value T) (hr.mono (by decide)) rfl T.g_is_value T.F_is_value.kp T.b_is_value .nil pass0 (pa_cons (pe_ix ix_tup (pv 0) pe_int (fun _ _ => rfl)) pa_nil))))))) (pss_one (ps_ret pe_bl)) pss_nil)
      (pss_cons (ps_if (pt_cmpR op_eq (pe_ix ix_tup (pv 0) pe_int (fun _ _ => rfl)) pe_str (nomark _)) (pss_one (ps_ret (pe_call (ok_is_number T) (hr.mono (by decide)) rfl T.g_is_number T.F_is_number.kp T.b_is_number .nil pass0 (pa_cons (pe_ix ix_tup (pv 0) pe_int (fun _ _ => rfl)) pa_nil)))) pss_nil)
      (pss_cons (ps_if (pt_cmpR op_eq (pe_ix ix_tup (pv 0) pe_int (fun _ _ => rfl)) pe_str (nomark _)) (pss_one (ps_ret (pe_call (ok_is_between T) (hr.mono (by decide)) rfl T.g_is_between T.F_is_between.kp T.b_is_between .nil pass0 (pa_cons (pe_ix ix_tup (pv 0) pe_int (fun _ _ => rfl)) (pa_cons pe_int (pa_cons (pe_op op_sub (pv 1) pe_int) pa_nil)))))) pss_nil)
      (pss_one (ps_ret (pe_and (pe_cmpR op_eq (pe_ix ix_tup (pv 0) pe_int (fun _ _ => rfl)) pe_str (nomark _)) (pe_and (pe_cmpR op_eq (pe_callB call_len rfl T.z_len boot_len (pa_cons (pv 0) pa_nil)) pe_int (nomark _)) (pe_one (pe_call (ok_is_name T) (hr.mono (by decide)) rfl T.g_is_name T.F_is_name.kp T.b_is_name .nil pass0 (pa_cons (pe_ix ix_tup (pv 0) pe_int (fun _ _ => rfl)) pa_nil))))))))))), ?_⟩
    have k : Kind K H (.ref a) "tuple" := .tup hs
    refine ⟨_, rfl, _, _, _, _, _, rfl, .ty _, k.ty, k.kit, _, rfl, ifF rfl ?_⟩
    refine ⟨_, rfl, _, _, rfl, .inr ⟨_, hs, rfl⟩, by show 2 ≤ sizeLine; decide, fun tp htp => ?_⟩
    have s1 : Same H (upd H tp (.tup [.int 2, .int 3])) := Same.new htp
    have hs1 := s1.tup hs
    have hx40 : ∀ x : Str, txt (.str x) 0 40 = true → x.length ≤ 100000 := fun x h => by have := txt_len h; omega
    cases l with
    | fix1 n =>
      refine ⟨tp, _, rfl, .inr (.inl (.inl upd_same)), rfl, rfl, _, rfl, ifF rfl ?_⟩
      refine ⟨_, rfl, _, _, rfl, .inr ⟨_, hs1, rfl⟩, rfl, _, rfl, ifF (by show decide (V.int 2 = V.int 3) = false; decide) (ifF rfl ?_)⟩
      refine ⟨_, rfl, _, _, _, _, rfl, rfl, hs1, rfl, rfl, _, rfl, ifT (by decide) ?_⟩
      exact ⟨_, rfl, _, _, _, _, rfl, rfl, hs1, rfl, .int n, "int", rfl, .int _, Q_bl (q _ s1) (btw_t (by omega) (by have h : n ≤ 9999 := ok; omega)).symm⟩
    | fix2 n x =>
      refine ⟨tp, _, rfl, .inr (.inl (.inl upd_same)), rfl, rfl, _, rfl, ifF rfl ?_⟩
      refine ⟨_, rfl, _, _, rfl, .inr ⟨_, hs1, rfl⟩, rfl, _, rfl, ifT (by show decide (V.int 3 = V.int 3) = true; decide) ?_⟩
      refine ⟨_, rfl, _, _, _, _, rfl, rfl, hs1, rfl, .str x, "str", rfl, .str _, fun y e => by cases e; exact hx40 x ok.2, fun H2 s2 => ⟨_, rfl, ?_⟩⟩
      rw [ok.2]
      refine ifF rfl ?_
      have hs2 := s2.tup hs1
      refine ⟨_, rfl, _, _, _, _, rfl, rfl, hs2, rfl, rfl, _, rfl, ifT (by decide) ?_⟩
      exact ⟨_, rfl, _, _, _, _, rfl, rfl, hs2, rfl, .int n, "int", rfl, .int _, Q_bl (q _ (s1.trans s2)) (btw_t (by omega) (by have h := ok.1; omega)).symm⟩
    | ent1 n =>
      refine ⟨tp, _, rfl, .inr (.inl (.inl upd_same)), rfl, rfl, _, rfl, ifF rfl ?_⟩
      refine ⟨_, rfl, _, _, rfl, .inr ⟨_, hs1, rfl⟩, rfl, _, rfl, ifF (by show decide (V.int 2 = V.int 3) = false; decide) (ifF rfl ?_)⟩
      refine ⟨_, rfl, _, _, _, _, rfl, rfl, hs1, rfl, rfl, _, rfl, ifF (by decide) ?_⟩
      refine ⟨_, rfl, _, _, _, _, rfl, rfl, hs1, rfl, rfl, _, rfl, ifT (by decide) ?_⟩
      exact ⟨_, rfl, _, _, _, _, rfl, rfl, hs1, rfl, _, rfl, _, _, rfl, rfl, .int n, "int", 0, _, rfl, .int _, Q_bl (q _ s1) (btw_t (by omega) (by have h : n < r := ok; omega)).symm⟩
    | ent2 n x =>
      refine ⟨tp, _, rfl, .inr (.inl (.inl upd_same)), rfl, rfl, _, rfl, ifF rfl ?_⟩
      refine ⟨_, rfl, _, _, rfl, .inr ⟨_, hs1, rfl⟩, rfl, _, rfl, ifT (by show decide (V.int 3 = V.int 3) = true; decide) ?_⟩
      refine ⟨_, rfl, _, _, _, _, rfl, rfl, hs1, rfl, .str x, "str", rfl, .str _, fun y e => by cases e; exact hx40 x ok.2, fun H2 s2 => ⟨_, rfl, ?_⟩⟩
      rw [ok.2]
      refine ifF rfl ?_
      have hs2 := s2.tup hs1
      refine ⟨_, rfl, _, _, _, _, rfl, rfl, hs2, rfl, rfl, _, rfl, ifF (by decide) ?_⟩
      refine ⟨_, rfl, _, _, _, _, rfl, rfl, hs2, rfl, rfl, _, rfl, ifT (by decide) ?_⟩
      exact ⟨_, rfl, _, _, _, _, rfl, rfl, hs2, rfl, _, rfl, _, _, rfl, rfl, .int n, "int", 0, _, rfl, .int _, Q_bl (q _ (s1.trans s2)) (btw_t (by omega) (by have h := ok.1; omega)).symm⟩
    | out y x =>
      refine ⟨tp, _, rfl, .inr (.inl (.inl upd_same)), rfl, rfl, _, rfl, ifF rfl ?_⟩
      refine ⟨_, rfl, _, _, rfl, .inr ⟨_, hs1, rfl⟩, rfl, _, rfl, ifT (by show decide (V.int 3 = V.int 3) = true; decide) ?_⟩
      refine ⟨_, rfl, _, _, _, _, rfl, rfl, hs1, rfl, .str x, "str", rfl, .str _, fun y e => by cases e; exact hx40 x ok.2, fun H2 s2 => ⟨_, rfl, ?_⟩⟩
      rw [ok.2]
      refine ifF rfl ?_
      have hs2 := s2.tup hs1
      refine ⟨_, rfl, _, _, _, _, rfl, rfl, hs2, rfl, rfl, _, rfl, ifF (by decide) ?_⟩
      refine ⟨_, rfl, _, _, _, _, rfl, rfl, hs2, rfl, rfl, _, rfl, ifF (by decide) ?_⟩
      refine ⟨_, rfl, _, _, _, _, rfl, rfl, hs2, rfl, rfl, _, rfl, ifT (by decide) ?_⟩
      refine ⟨_, rfl, _, _, rfl, .inr ⟨_, hs2, rfl⟩, rfl, _, rfl, ifT (by show decide (V.int 3 = V.int 3) = true; decide) ?_⟩
      exact ⟨_, rfl, _, _, _, _, rfl, rfl, hs2, rfl, .str y, "str", rfl, .str _, fun z e => by cases e; exact hx40 y (txt_20 ok.1), fun H3 s3 => Q_bl (q _ ((s1.trans s2).trans s3)) ok.1.symm⟩
theorem ok_is_block (T : Txt K mg) : FnOk P w K mg base CX0 4 T.f_is_block T.d_is_block ["thing"] (sp_is_block K) := by
  refine T.F_is_block.ok sc_is_block (fun vs H Q E h => ?_) (fun cdv A outer s H vs Q E hr h => ?_)
  · obtain ⟨v, b, rfl, _⟩ := h
    rfl
  · obtain ⟨v, b, rfl, ⟨a, t, xs, rfl, hs, ht, hl⟩, ok, q⟩ := h
    refine ⟨_, (pss_cons (ps_if (PW.pt (pw_or (pt_not (pt_val (pe_callB call_isi rfl T.z_isinstance boot_isinstance (pa_cons (pv 0) (pa_cons (pe_bltn (v := .ty "tuple") rfl T.z_tuple boot_tuple rfl) pa_nil))))) (pw_or1 (pt_cmpR op_ne (pe_callB call_len rfl T.z_len boot_len (pa_cons (pv 0) pa_nil)) pe_int (nomark _))))) (pss_one (ps_ret pe_bl)) pss_nil)
      (pss_cons (ps_asg (pv 0) (pg_tup rfl (pgs_cons (pg_name (i := 1) sc_is_block.nd rfl (Or.inr rfl)) (pgs_cons (pg_name (i := 2) sc_is_block.nd rfl (Or.inl rfl)) (pgs_cons (pg_name (i := 3) sc_is_block.nd rfl (Or.inl rfl)) pgs_nil)))))
      (pss_cons (ps_if (PW.pt (pw_or (pt_not (pt_val (pe_call (ok_is_number T) (hr.mono (by decide)) rfl T.g_is_number T.F_is_number.kp T.b_is_number .nil pass0 (pa_cons (pv 1) pa_nil)))) (pw_or1 (pt_not (pt_val (pe_call (ok_is_between T) (hr.mono (by decide)) rfl T.g_is_between T.F_is_between.kp T.b_is_between .nil pass0 (pa_cons (pv 2) (pa_cons pe_int (pa_cons (pv 1) pa_nil))))))))) (pss_one (ps_ret pe_bl)) pss_nil)
      (pss_cons (ps_if (PW.pt (pw_or (pt_not (pt_val (pe_callB call_isi rfl T.z_isinstance boot_isinstance (pa_cons (pv 3) (pa_cons (pe_bltn (v := .ty "tuple") rfl T.z_tuple boot_tuple rfl) pa_nil))))) (pw_or1 (pt_cmpR op_gt (pe_callB call_len rfl T.z_len boot_len (pa_cons (pv 3) pa_nil)) (pe_glob (v := .int 16) rfl T.g_LINES_MOST ⟨_, rfl⟩) (nomark _))))) (pss_one (ps_ret pe_bl)) pss_nil)
      (pss_one (ps_ret (pe_callB (cr_all rfl) rfl T.z_all boot_all (pa_cons (pe_lc (own := [("line", 4)]) (g := (gName 4)) (tt := tYes)  rfl sc_is_block.nd (pi_tup (pv 3)) (blkOk_by (own := [("line", 4)]) (N := ["thing", "required", "base", "lines", "line"]) (sc := defScope s_is_block) (by decide +kernel)) (fun _ _ _ _ _ => (pg_name (i := 4) sc_is_block.nd rfl (Or.inl rfl))) (fun _ _ _ _ _ => pts_nil) (fun _ _ _ _ _ => (pe_call (ok_is_line T) (hr.mono (by decide)) rfl T.g_is_line T.F_is_line.kp T.b_is_line .nil pass0 (pa_cons (pv 4) (pa_cons (pv 1) pa_nil))))) pa_nil)))))))), ?_⟩
    have k : Kind K H (.ref a) "tuple" := .tup hs
    have kt : Kind K H (.ref t) "tuple" := .tup ht
    have o1 := ok.req_
    have o2 := ok.base_
    have o3 := ok.len_
    have hll := hl.len
    refine ⟨_, rfl, _, _, _, _, _, rfl, .ty _, k.ty, k.kit, _, rfl, ifF rfl ?_⟩
    refine ⟨_, rfl, _, _, rfl, .inr ⟨_, hs, rfl⟩, rfl, _, rfl, ifF (by show (!decide (V.int 3 = V.int 3)) = false; decide) ?_⟩
    refine ⟨_, rfl, a, _, rfl, hs, rfl, ⟨_, _, rfl, ⟨_, _, rfl, ⟨_, _, rfl, rfl, ?_⟩⟩⟩⟩
    refine ⟨_, rfl, .int b.req, "int", rfl, .int _, ⟨_, rfl, ?_⟩⟩
    rw [show btw (.int (b.req : Nat)) 0 9999 = true from btw_t (by omega) (by omega)]
    refine ifF rfl ?_
    refine ⟨_, rfl, _, rfl, .int b.base, "int", 0, b.req, rfl, .int _, ⟨_, rfl, ?_⟩⟩
    rw [show btw (.int (b.base : Nat)) 0 b.req = true from btw_t (by omega) (by omega)]
    refine ifF rfl ?_
    refine ⟨_, rfl, _, _, _, _, _, rfl, .ty _, kt.ty, kt.kit, _, rfl, ifF rfl ?_⟩
    refine ⟨_, rfl, _, _, rfl, .inr ⟨_, ht, rfl⟩, _, _, rfl, rfl, _, rfl, ifF (decide_eq_false (by omega)) ?_⟩
    refine ⟨_, rfl, t, rfl, ⟨xs, ht⟩, fun D hD => ?_⟩
    refine lc_map (walk_tup (xs := xs)) (fun i => V.bl true) (by omega) hD (fun _ s1 => s1.tup ht) ?_ ?_
    · rintro i y H' H'' Q' Z hi s1 ⟨rfl, hy⟩ q'
      refine ⟨rfl, yesI ?_⟩
      obtain ⟨l, hl1, hl2⟩ := hl.at_ hy
      exact ⟨_, rfl, _, rfl, y, l, b.req, rfl, hl2.keep s1, ok.lns_ l (List.mem_of_getElem? hl1), fun H3 s3 => q' H3 s3⟩
    · intro H' s1 hD'
      refine ⟨_, (List.range xs.length).map fun _ => true, rfl, .inl (.inl ?_), ?_⟩
      · rw [hD', List.map_map]; rfl
      · refine Q_bl (q H' s1) ?_
        rw [List.all_map]
        exact (List.all_eq_true.mpr fun _ _ => rfl).symm

theorem ok_whole_octets (T : Txt K mg) : FnOk P w K mg base CX0 4 T.f_whole_octets T.d_whole_octets ["kind", "number", "base"] (sp_whole_octets false) := by
  refine T.F_whole_octets.ok sc_whole_octets (fun vs H Q E h => ?_) (fun cdv A outer s H vs Q E hr h => ?_)
  · obtain ⟨c, n, b, rfl, _⟩ := h
    rfl
  · obtain ⟨c, n, b, rfl, hn, hb, h⟩ := h
    refine ⟨_, (pss_cons (ps_if (pt_cmpR op_eq (pv 0) pe_str (nomark _)) (pss_one (ps_ret (pe_call (ok_number_octets T) (hr.mono (by decide)) rfl T.g_number_octets T.F_number_octets.kp T.b_number_octets .nil pass0 (pa_cons (pv 1) (pa_cons pe_int (pa_cons pe_int pa_nil)))))) pss_nil)
      (pss_cons (ps_if (pt_cmpR op_lt (pv 1) (pv 2) (nomark _)) (pss_one (ps_ret (pe_call (ok_number_octets T) (hr.mono (by decide)) rfl T.g_number_octets T.F_number_octets.kp T.b_number_octets .nil pass0 (pa_cons (pe_op op_sub (pe_op op_sub (pv 2) (pv 1)) pe_int) (pa_cons pe_int (pa_cons pe_int pa_nil)))))) pss_nil)
      (pss_one (ps_ret (pe_call (ok_number_octets T) (hr.mono (by decide)) rfl T.g_number_octets T.F_number_octets.kp T.b_number_octets .nil pass0 (pa_cons (pe_op op_sub (pv 1) (pv 2)) (pa_cons pe_int (pa_cons pe_int pa_nil)))))))), ?_⟩
    rcases h with ⟨rfl, q⟩ | ⟨rfl, q⟩
    · exact ⟨_, rfl, rfl, _, rfl, ifT (by decide) ⟨_, rfl, n, 6, 192, rfl, hn, ⟨by decide, by decide, by decide, by decide +kernel⟩, q⟩⟩
    · refine ⟨_, rfl, rfl, _, rfl, ifF (by decide) ⟨_, rfl, _, rfl, _, _, rfl, rfl, _, rfl, ifb (fun h1 => ?_) (fun h1 => ?_)⟩⟩
      · have h1' : n < b := by have : (n : Int) < (b : Int) := of_decide_eq_true h1; omega
        have q' : RetInts (wholeOct b n) H Q := q
        rw [wholeOct, if_pos h1'] at q'
        refine ⟨_, rfl, _, rfl, _, _, rfl, rfl, _, _, rfl, rfl, ?_⟩
        exact ⟨b - n - 1, 3, 128, by show [V.int ((b : Int) - (n : Int) - 1), V.int 3, V.int 128] = _; rw [show ((b : Int) - (n : Int) - 1) = ((b - n - 1 : Nat) : Int) by omega]; rfl, by omega, ⟨by decide, by decide, by decide, by decide +kernel⟩, q'⟩
      · have h1' : ¬ n < b := by have : ¬ (n : Int) < (b : Int) := of_decide_eq_false h1; omega
        have q' : RetInts (wholeOct b n) H Q := q
        rw [wholeOct, if_neg h1'] at q'
        refine ⟨_, rfl, _, rfl, _, _, rfl, rfl, ?_⟩
        exact ⟨n - b, 2, 16, by show [V.int ((n : Int) - (b : Int)), V.int 2, V.int 16] = _; rw [show ((n : Int) - (b : Int)) = ((n - b : Nat) : Int) by omega]; rfl, by omega, ⟨by decide, by decide, by decide, by decide +kernel⟩, q'⟩
theorem ok_named_octets (T : Txt K mg) : FnOk P w K mg base CX0 4 T.f_named_octets T.d_named_octets ["kind", "number", "base"] (sp_whole_octets true) := by
  refine T.F_named_octets.ok sc_named_octets (fun vs H Q E h => ?_) (fun cdv A outer s H vs Q E hr h => ?_)
  · obtain ⟨c, n, b, rfl, _⟩ := h
    rfl
  · obtain ⟨c, n, b, rfl, hn, hb, h⟩ := h
    refine ⟨_, (pss_cons (ps_if (pt_cmpR op_eq (pv 0) pe_str (nomark _)) (pss_one (ps_ret (pe_call (ok_number_octets T) (hr.mono (by decide)) rfl T.g_number_octets T.F_number_octets.kp T.b_number_octets .nil pass0 (pa_cons (pv 1) (pa_cons pe_int (pa_cons pe_int pa_nil)))))) pss_nil)
      (pss_cons (ps_if (pt_cmpR op_lt (pv 1) (pv 2) (nomark _)) (pss_one (ps_ret (pe_call (ok_number_octets T) (hr.mono (by decide)) rfl T.g_number_octets T.F_number_octets.kp T.b_number_octets .nil pass0 (pa_cons (pe_op op_sub (pe_op op_sub (pv 2) (pv 1)) pe_int) (pa_cons pe_int (pa_cons pe_int pa_nil)))))) pss_nil)
      (pss_one (ps_ret (pe_call (ok_number_octets T) (hr.mono (by decide)) rfl T.g_number_octets T.F_number_octets.kp T.b_number_octets .nil pass0 (pa_cons (pe_op op_sub (pv 1) (pv 2)) (pa_cons pe_int (pa_cons pe_int pa_nil)))))))), ?_⟩
    rcases h with ⟨rfl, q⟩ | ⟨rfl, q⟩
    · exact ⟨_, rfl, rfl, _, rfl, ifT (by decide) ⟨_, rfl, n, 4, 96, rfl, hn, ⟨by decide, by decide, by decide, by decide +kernel⟩, q⟩⟩
    · refine ⟨_, rfl, rfl, _, rfl, ifF (by decide) ⟨_, rfl, _, rfl, _, _, rfl, rfl, _, rfl, ifb (fun h1 => ?_) (fun h1 => ?_)⟩⟩
      · have h1' : n < b := by have : (n : Int) < (b : Int) := of_decide_eq_true h1; omega
        have q' : RetInts (namedOct b n) H Q := q
        rw [namedOct, if_pos h1'] at q'
        refine ⟨_, rfl, _, rfl, _, _, rfl, rfl, _, _, rfl, rfl, ?_⟩
        exact ⟨b - n - 1, 3, 64, by show [V.int ((b : Int) - (n : Int) - 1), V.int 3, V.int 64] = _; rw [show ((b : Int) - (n : Int) - 1) = ((b - n - 1 : Nat) : Int) by omega]; rfl, by omega, ⟨by decide, by decide, by decide, by decide +kernel⟩, q'⟩
      · have h1' : ¬ n < b := by have : ¬ (n : Int) < (b : Int) := of_decide_eq_false h1; omega
        have q' : RetInts (namedOct b n) H Q := q
        rw [namedOct, if_neg h1'] at q'
        refine ⟨_, rfl, _, rfl, _, _, rfl, rfl, ?_⟩
        exact ⟨n - b, 2, 0, by show [V.int ((n : Int) - (b : Int)), V.int 2, V.int 0] = _; rw [show ((n : Int) - (b : Int)) = ((n - b : Nat) : Int) by omega]; rfl, by omega, ⟨by decide, by decide, by decide, by decide +kernel⟩, q'⟩
theorem ok_line_octets (T : Txt K mg) : FnOk P w K mg base CX0 6 T.f_line_octets T.d_line_octets ["line", "base"] (sp_line_octets K) := by
  refine T.F_line_octets.ok sc_line_octets (fun vs H Q E h => ?_) (fun cdv A outer s H vs Q E hr h => ?_)
  · obtain ⟨v, l, b, r, rfl, _⟩ := h
    rfl
  · obtain ⟨v, l, b, r, rfl, ⟨a, rfl, hs⟩, ok, hr9, hbr, q⟩ := h
    refine ⟨_, (pss_cons (ps_set (i := 2) sc_line_octets.nd rfl (Or.inl rfl) (pe_ix ix_tup (pv 0) pe_int (fun _ _ => rfl)))
      (pss_cons (ps_if (pt_cmpR op_eq (pv 2) pe_str (nomark _)) (pss_one (ps_ret (pe_op op_cat (pe_call (ok_string_octets T) (hr.mono (by decide)) rfl T.g_string_octets T.F_string_octets.kp T.b_string_octets .nil pass0 (pa_cons (pe_ix ix_tup (pv 0) pe_int (fun _ _ => rfl)) (pa_cons pe_int (pa_cons pe_int pa_nil)))) (pe_call (ok_value_octets T) (hr.mono (by decide)) rfl T.g_value_octets T.F_value_octets.kp T.b_value_octets .nil pass0 (pa_cons (pe_ix ix_tup (pv 0) pe_int (fun _ _ => rfl)) pa_nil))))) pss_nil)
      (pss_cons (ps_if (pt_cmpR op_eq (pe_callB call_len rfl T.z_len boot_len (pa_cons (pv 0) pa_nil)) pe_int (nomark _)) (pss_one (ps_ret (pe_call (ok_whole_octets T) (hr.mono (by decide)) rfl T.g_whole_octets T.F_whole_octets.kp T.b_whole_octets .nil pass0 (pa_cons (pv 2) (pa_cons (pe_ix ix_tup (pv 0) pe_int (fun _ _ => rfl)) (pa_cons (pv 1) pa_nil)))))) pss_nil)
      (pss_one (ps_ret (pe_op op_cat (pe_call (ok_named_octets T) (hr.mono (by decide)) rfl T.g_named_octets T.F_named_octets.kp T.b_named_octets .nil pass0 (pa_cons (pv 2) (pa_cons (pe_ix ix_tup (pv 0) pe_int (fun _ _ => rfl)) (pa_cons (pv 1) pa_nil)))) (pe_call (ok_value_octets T) (hr.mono (by decide)) rfl T.g_value_octets T.F_value_octets.kp T.b_value_octets .nil pass0 (pa_cons (pe_ix ix_tup (pv 0) pe_int (fun _ _ => rfl)) pa_nil)))))))), ?_⟩
    have e2 : decide (V.int 2 = V.int 2) = true := by decide
    have e3 : decide (V.int 3 = V.int 2) = false := by decide
    cases l with
    | fix1 n =>
      refine ⟨_, rfl, _, _, _, _, rfl, rfl, hs, rfl, ?_⟩
      refine ⟨_, rfl, rfl, _, rfl, ifF (by decide) ⟨_, rfl, _, _, rfl, .inr ⟨_, hs, rfl⟩, rfl, _, rfl, ifT e2 ?_⟩⟩
      exact ⟨_, rfl, _, rfl, _, _, _, _, rfl, rfl, hs, rfl, _, rfl, "fixed", n, b, rfl, ok, by omega, .inl ⟨rfl, q⟩⟩
    | ent1 n =>
      have hn : n < r := ok
      refine ⟨_, rfl, _, _, _, _, rfl, rfl, hs, rfl, ?_⟩
      refine ⟨_, rfl, rfl, _, rfl, ifF (by decide) ⟨_, rfl, _, _, rfl, .inr ⟨_, hs, rfl⟩, rfl, _, rfl, ifT e2 ?_⟩⟩
      exact ⟨_, rfl, _, rfl, _, _, _, _, rfl, rfl, hs, rfl, _, rfl, "entry", n, b, rfl, by omega, by omega, .inr ⟨rfl, q⟩⟩
    | fix2 n x =>
      refine ⟨_, rfl, _, _, _, _, rfl, rfl, hs, rfl, ?_⟩
      refine ⟨_, rfl, rfl, _, rfl, ifF (by decide) ⟨_, rfl, _, _, rfl, .inr ⟨_, hs, rfl⟩, rfl, _, rfl, ifF e3 ?_⟩⟩
      refine ⟨_, rfl, _, rfl, _, _, _, _, rfl, rfl, hs, rfl, _, rfl, "fixed", n, b, rfl, ok.1, by omega, .inl ⟨rfl, fun p H2 hp s2 g2 => ?_⟩⟩
      refine ⟨_, rfl, _, _, _, _, rfl, rfl, s2.tup hs, rfl, x, rfl, ok.2, fun p3 H3 hp3 s3 g3 => ?_⟩
      have g2' : H2 p = some (.lst ((numOct n 4 96).map V.int)) := g2
      have l1 := numOct_len n 4 96
      have l2 := strOct_len (b := 7) (m := 0) (txt_len ok.2)
      have l3 := ok.1
      exact cat_go q (s2.trans s3) (s3 _ _ g2') g3 (by omega)
    | ent2 n x =>
      have hn := ok.1
      refine ⟨_, rfl, _, _, _, _, rfl, rfl, hs, rfl, ?_⟩
      refine ⟨_, rfl, rfl, _, rfl, ifF (by decide) ⟨_, rfl, _, _, rfl, .inr ⟨_, hs, rfl⟩, rfl, _, rfl, ifF e3 ?_⟩⟩
      refine ⟨_, rfl, _, rfl, _, _, _, _, rfl, rfl, hs, rfl, _, rfl, "entry", n, b, rfl, by omega, by omega, .inr ⟨rfl, fun p H2 hp s2 g2 => ?_⟩⟩
      refine ⟨_, rfl, _, _, _, _, rfl, rfl, s2.tup hs, rfl, x, rfl, ok.2, fun p3 H3 hp3 s3 g3 => ?_⟩
      have g2' : H2 p = some (.lst ((namedOct b n).map V.int)) := g2
      have l1 := namedOct_len (base := b) (n := n) (by omega) (by omega)
      have l2 := strOct_len (b := 7) (m := 0) (txt_len ok.2)
      exact cat_go q (s2.trans s3) (s3 _ _ g2') g3 (by omega)
    | out y x =>
      refine ⟨_, rfl, _, _, _, _, rfl, rfl, hs, rfl, ?_⟩
      refine ⟨_, rfl, rfl, _, rfl, ifT (by decide) ?_⟩
      refine ⟨_, rfl, _, _, _, _, rfl, rfl, hs, rfl, y, 4, 32, rfl, txt_20 ok.1, ⟨by decide, by decide, by decide, by decide +kernel⟩, fun p H2 hp s2 g2 => ?_⟩
      refine ⟨_, rfl, _, _, _, _, rfl, rfl, s2.tup hs, rfl, x, rfl, ok.2, fun p3 H3 hp3 s3 g3 => ?_⟩
      have l1 := strOct_len (b := 4) (m := 32) (txt_len (txt_20 ok.1))
      have l2 := strOct_len (b := 7) (m := 0) (txt_len ok.2)
      exact cat_go q (s2.trans s3) (s3 _ _ g2) g3 (by omega)
theorem ok_write_block (T : Txt K mg) : FnOk P w K mg base CX0 7 T.f_write_block T.d_write_block ["block"] (sp_write_block K) := by
  refine T.F_write_block.ok sc_write_block (fun vs H Q E h => ?_) (fun cdv A outer s H vs Q E hr h => ?_)
  · obtain ⟨v, b, rfl, _⟩ := h
    rfl
  · obtain ⟨v, b, rfl, hb, ok, q⟩ := h
    refine ⟨_, (pss_cons (ps_if (pt_not (pt_val (pe_call (ok_is_block T) (hr.mono (by decide)) rfl T.g_is_block T.F_is_block.kp T.b_is_block .nil pass0 (pa_cons (pv 0) pa_nil)))) (pss_one ps_never) pss_nil)
      (pss_cons (ps_asg (pv 0) (pg_tup rfl (pgs_cons (pg_name (i := 1) sc_write_block.nd rfl (Or.inl rfl)) (pgs_cons (pg_name (i := 2) sc_write_block.nd rfl (Or.inl rfl)) (pgs_cons (pg_name (i := 3) sc_write_block.nd rfl (Or.inl rfl)) pgs_nil)))))
      (pss_cons (ps_set (i := 4) sc_write_block.nd rfl (Or.inl rfl) (pe_op op_cat (pe_call (ok_number_octets T) (hr.mono (by decide)) rfl T.g_number_octets T.F_number_octets.kp T.b_number_octets .nil pass0 (pa_cons (pv 1) (pa_cons pe_int (pa_cons pe_int pa_nil)))) (pe_call (ok_number_octets T) (hr.mono (by decide)) rfl T.g_number_octets T.F_number_octets.kp T.b_number_octets .nil pass0 (pa_cons (pe_op op_sub (pv 1) (pv 2)) (pa_cons pe_int (pa_cons pe_int pa_nil))))))
      (pss_cons (ps_for PassesOwn.never rfl (pi_tup (pv 3)) (pg_name (i := 5) sc_write_block.nd rfl (Or.inl rfl))
        (pss_one (ps_expr (pe_bm PySem.F.plainAttrs_list PySem.F.slot_list_extend PySem.F.type_list_extend mt_extend (pv 4) (pa_cons (pe_call (ok_line_octets T) (hr.mono (by decide)) rfl T.g_line_octets T.F_line_octets.kp T.b_line_octets .nil pass0 (pa_cons (pv 5) (pa_cons (pv 2) pa_nil))) pa_nil)))))
      (pss_one (ps_ret (pv 4))))))), ?_⟩
    have o1 := ok.req_
    have o2 := ok.base_
    have o3 := ok.len_
    refine ⟨_, rfl, v, b, rfl, hb, ok, fun H1 s1 => ⟨_, rfl, ifF rfl ?_⟩⟩
    obtain ⟨a, t, xs, rfl, hs, ht, hl⟩ := hb.keep s1
    have hll := hl.len
    refine ⟨_, rfl, a, _, rfl, hs, rfl, ⟨_, _, rfl, ⟨_, _, rfl, ⟨_, _, rfl, rfl, ?_⟩⟩⟩⟩
    refine ⟨_, rfl, b.req, 8, 0, rfl, o1, mark0 (by decide) (by decide), fun p2 H2 hp2 s2 g2 => ?_⟩
    refine ⟨_, rfl, _, rfl, _, _, rfl, rfl, b.req - b.base, 8, 0, by show [V.int ((b.req : Int) - (b.base : Int)), V.int 8, V.int 0] = _; rw [show ((b.req : Int) - (b.base : Int)) = ((b.req - b.base : Nat) : Int) by omega]; rfl, by omega, mark0 (by decide) (by decide), fun p3 H3 hp3 s3 g3 => ?_⟩
    have l1 := numOct_len b.req 8 0
    have l2 := numOct_len (b.req - b.base) 8 0
    refine ⟨p2, p3, _, _, rfl, rfl, s3 _ _ g2, g3, by rw [List.length_map, List.length_map, sizeLine_eq]; omega, fun oc hoc => ?_⟩
    have S3 := s2.trans s3
    have hoc1 : H1 oc = none := S3.free hoc
    refine ⟨_, rfl, t, rfl, ⟨xs, (S3.trans (Same.new hoc)).tup ht⟩, ?_⟩
    refine for_it (walk_tup (xs := xs)) (fun i σ H' => ∃ v5 : Option V, σ = [some (.ref a), some (.int b.req), some (.int b.base), some (.ref t), some (.ref oc), v5] ∧ Same H1 H' ∧ H' oc = some (.lst (((numOct b.req 8 0 ++ numOct (b.req - b.base) 8 0) ++ lnsOct b.base (b.ls.take i)).map V.int))) ⟨_, rfl, S3.put hoc1, ?_⟩ (fun i σ H' _ ⟨_, _, s', _⟩ => s'.tup ht) ?_ ?_
    · rw [upd_same, List.take_zero, ← List.map_append]
      show some (HO.lst _) = some (HO.lst ((_ ++ []).map V.int))
      rw [List.append_nil]
    · rintro i x σ H4 H4' hi ⟨v5, rfl, s4, g4⟩ ⟨rfl, hx⟩
      obtain ⟨l, hl1, hl2⟩ := hl.at_ hx
      have hlo := ok.lns_ l (List.mem_of_getElem? hl1)
      refine ⟨_, rfl, .inl ⟨rfl, _, SqL.of g4⟩, _, rfl, _, rfl, x, l, b.base, b.req, rfl, hl2.keep s4, hlo, o1, o2, fun p5 H5 hp5 s5 g5 => ?_⟩
      have l3 := lns_take_len (i := i) o1 o2 ok.lns_ o3
      have l4 := ln_len (base := b.base) hlo o1 o2
      refine ⟨oc, p5, _, _, rfl, rfl, s5 _ _ g4, g5, ?_, ?_⟩
      · rw [List.length_map, List.length_map, List.length_append, List.length_append, sizeLine_eq]; omega
      · refine ⟨_, rfl, (s4.trans s5).put hoc1, ?_⟩
        rw [upd_same, lns_succ hl1, ← List.map_append, List.append_assoc]
    · rintro σ H4 ⟨v5, rfl, s4, g4⟩
      refine ⟨_, rfl, q oc H4 (s1.free hoc1) (s1.trans s4) ?_⟩
      rw [g4, hll, List.take_length]
      rfl

theorem ok_are_entries (T : Txt K mg) : FnOk P w K mg base CX0 4 T.f_are_entries T.d_are_entries ["thing"] (sp_are_entries K) := by
  refine T.F_are_entries.ok sc_are_entries (fun vs H Q E h => ?_) (fun cdv A outer s H vs Q E hr h => ?_)
  · obtain ⟨D, es, rfl, _⟩ := h
    rfl
  · obtain ⟨D, es, rfl, hE, ok, q⟩ := h
    obtain ⟨kvs, hD, hp⟩ := id hE
    refine ⟨_, (pss_cons (ps_if (PW.pt (pw_or (pt_not (pt_val (pe_callB call_isi rfl T.z_isinstance boot_isinstance (pa_cons (pv 0) (pa_cons (pe_bltn (v := .ty "dict") rfl T.z_dict boot_dict rfl) pa_nil))))) (pw_or1 (pt_cmpR op_gt (pe_callB call_lenD rfl T.z_len boot_len (pa_cons (pv 0) pa_nil)) (pe_glob (v := .int 24) rfl T.g_ENTRIES_MOST ⟨_, rfl⟩) (nomark _))))) (pss_one (ps_ret pe_bl)) pss_nil)
      (pss_one (ps_ret (pe_callB (cr_all rfl) rfl T.z_all boot_all (pa_cons (pe_lock (pe_lc (own := [("number", 1)]) (g := (gName 1)) (tt := tYes)  rfl sc_are_entries.nd (pi_keys (pv 0)) (blkOk_by (own := [("number", 1)]) (N := ["thing", "number"]) (sc := defScope s_are_entries) (by decide +kernel)) (fun _ _ _ _ _ => (pg_name (i := 1) sc_are_entries.nd rfl (Or.inl rfl))) (fun _ _ _ _ _ => pts_nil) (fun _ _ _ _ _ => (pe_and (pe_call (ok_is_between T) (hr.mono (by decide)) rfl T.g_is_between T.F_is_between.kp T.b_is_between .nil pass0 (pa_cons (pv 1) (pa_cons pe_int (pa_cons (pe_glob (v := .int 40) rfl T.g_ENTRY_MOST ⟨_, rfl⟩) pa_nil)))) (pe_one (pe_call (ok_is_field T) (hr.mono (by decide)) rfl T.g_is_field T.F_is_field.kp T.b_is_field .nil pass0 (pa_cons (pe_dget (hu_of hr) (pv 0) (pv 1) (fun _ _ => rfl)) pa_nil))))))) pa_nil))))), ?_⟩
    have k : Kind K H (.ref D) "dict" := .dK hD
    have hl := p_len hp
    have hl2 := ok.len
    refine ⟨_, rfl, _, _, _, _, _, rfl, .ty _, k.ty, k.kit, _, rfl, ifF rfl ?_⟩
    refine ⟨_, rfl, D, kvs, rfl, hD, _, _, rfl, rfl, _, rfl, ifF (decide_eq_false (by omega)) ?_⟩
    refine ⟨D, .dK kvs, hD, True.intro, fun od => ?_⟩
    have tl : TS H (upd H D (.frz od (.dK kvs))) := TS.at hD nt_dK
    refine ⟨_, rfl, D, od, rfl, .inl ⟨kvs, upd_same, fun C hC => ?_⟩⟩
    have nCD : D ≠ C := fun e => by rw [← e, upd_same] at hC; cases hC
    refine lc_map walk_keys (fun _ => V.bl true) (by omega) hC (fun H' s1 => s1 _ _ upd_same) ?_ ?_
    · rintro i x H' H'' Q' Z hi s1 ⟨rfl, ky, v0, hk, rfl⟩ q'
      refine ⟨rfl, yesI ?_⟩
      obtain ⟨e, he, hpe⟩ := p_at hp hk
      have hky : ky = nkey e.1 := hpe.1
      subst hky
      have hmem := List.mem_of_getElem? he
      have h40 := ok.key e hmem
      refine ⟨_, rfl, .int (e.1 : Nat), "int", 0, 40, rfl, .int _, ?_⟩
      rw [show btw (.int (e.1 : Nat)) 0 40 = true from btw_t (by omega) (by omega)]
      obtain ⟨g, hg⟩ := look_has (es := es) (n := e.1) (f := e.2) hmem
      rcases look_get (n := e.1) hp with ⟨_, h0⟩ | ⟨v, f, hv, hf, hfd⟩
      · rw [h0] at hg; cases hg
      have fok := ok.fd _ (look_mem hf)
      refine ⟨_, rfl, ifT rfl ?_⟩
      refine ⟨_, rfl, _, rfl, D, v, rfl, .inl ⟨kvs, nkey e.1, .inr ⟨od, s1 _ _ upd_same⟩, rfl, hv.symm⟩, ?_⟩
      refine ⟨v, fdat f, rfl, .ofDp (hfd.ts (tl.trans (.of s1))).dp, lim_fd fok, fun H3 s3 => ?_⟩
      rw [dField_fd fok]
      exact q' H3 s3
    · intro H' s1 hC'
      refine ⟨s1 _ _ upd_same, C, (List.range kvs.length).map fun _ => true, rfl, .inl (.inl ?_), ?_⟩
      · rw [upd_ne (Ne.symm nCD), hC', List.map_map]; rfl
      · have sS : Same H (upd H' D (.dK kvs)) := fun b o e => by
          by_cases z : b = D
          · subst z; rw [upd_same]; rw [hD] at e; exact e
          · rw [upd_ne z]; exact s1 b o (by rw [upd_ne z]; exact e)
        refine Q_bl (q _ sS) ?_
        rw [List.all_map]
        exact (List.all_eq_true.mpr fun _ _ => rfl).symm
theorem ok_check_setting (T : Txt K mg) : FnOk P w K mg base CX0 6 T.f_check_setting T.d_check_setting ["setting"] (sp_check_setting K) := by
  refine T.F_check_setting.ok sc_check_setting (fun vs H Q E h => ?_) (fun cdv A outer s H vs Q E hr h => ?_)
  · obtain ⟨v, F, r, w, rfl, _⟩ := h
    rfl
  · obtain ⟨v, F, r, w, rfl, hv, ok, q⟩ := h
    refine ⟨_, (pss_one (ps_if (pt_not (pt_val (pe_call (ok_is_setting T) (hr.mono (by decide)) rfl T.g_is_setting T.F_is_setting.kp T.b_is_setting .nil pass0 (pa_cons (pv 0) pa_nil)))) (pss_one ps_never) pss_nil)), ?_⟩
    refine ⟨_, rfl, v, sdat F r w, rfl, .ofDp hv.dp, lim_set ok, fun H1 s1 => ⟨_, rfl, ?_⟩⟩
    rw [dSetting_ok ok]
    exact ifF rfl (q H1 s1)
theorem ok_check_entries (T : Txt K mg) : FnOk P w K mg base CX0 5 T.f_check_entries T.d_check_entries ["entries"] (sp_check_entries K) := by
  refine T.F_check_entries.ok sc_check_entries (fun vs H Q E h => ?_) (fun cdv A outer s H vs Q E hr h => ?_)
  · obtain ⟨D, es, rfl, _⟩ := h
    rfl
  · obtain ⟨D, es, rfl, hv, ok, q⟩ := h
    refine ⟨_, (pss_one (ps_if (pt_not (pt_val (pe_call (ok_are_entries T) (hr.mono (by decide)) rfl T.g_are_entries T.F_are_entries.kp T.b_are_entries .nil pass0 (pa_cons (pv 0) pa_nil)))) (pss_one ps_never) pss_nil)), ?_⟩
    exact ⟨_, rfl, D, es, rfl, hv, ok, fun H1 s1 => ⟨_, rfl, ifF rfl (q H1 s1)⟩⟩
theorem ok_referred (T : Txt K mg) : FnOk P w K mg base CX0 1 T.f_referred T.d_referred ["fixed", "entries", "kind", "number"] (sp_referred K) := by
  refine T.F_referred.ok sc_referred (fun vs H Q E h => ?_) (fun cdv A outer s H vs Q E hr h => ?_)
  · obtain ⟨t, D, F, es, k, n, rfl, _⟩ := h
    rfl
  · obtain ⟨t, D, F, es, k, n, rfl, hT, h⟩ := h
    obtain ⟨xs, hx, hf⟩ := hT.fx
    obtain ⟨kvs, hD, hp⟩ := hT.en
    refine ⟨_, (pss_cons (ps_if (pt_cmpR op_eq (pv 2) pe_str (nomark _)) (pss_one (ps_ret (pe_dget1 (hu_of hr) (pv 1) (pv 3) ⟨rfl, rfl, rfl, rfl⟩))) pss_nil)
      (pss_cons (ps_if (pt_cmpR op_lt (pv 3) (pe_callB call_len rfl T.z_len boot_len (pa_cons (pv 0) pa_nil)) (nomark _)) (pss_one (ps_ret (pe_ix ix_tup (pv 0) (pv 3) (fun _ _ => rfl)))) pss_nil)
      (pss_one (ps_ret pe_non)))), ?_⟩
    have hl := p_len hf
    rcases h with ⟨rfl, q⟩ | ⟨rfl, q⟩
    · refine ⟨_, rfl, rfl, _, rfl, ifF (by decide) ?_⟩
      refine ⟨_, rfl, _, rfl, _, _, rfl, .inr ⟨_, hx, rfl⟩, _, _, rfl, rfl, _, rfl, ifb (fun e => ?_) (fun e => ?_)⟩
      · have e' : (n : Int) < (xs.length : Int) := by simpa using e
        have hn : n < F.length := by omega
        obtain ⟨v, hv, hfd⟩ := p_at' hf (List.getElem?_eq_getElem hn)
        refine ⟨_, rfl, _, rfl, _, _, _, v, rfl, rfl, hx, atI_nat hv, q v ?_⟩
        rw [List.getElem?_eq_getElem hn]; exact hfd
      · have e' : ¬ (n : Int) < (xs.length : Int) := by simpa using e
        refine q .non ?_
        rw [List.getElem?_eq_none (by omega)]; rfl
    · refine ⟨_, rfl, rfl, _, rfl, ifT (by decide) ?_⟩
      refine ⟨_, rfl, D, rfl, .inl ⟨kvs, .inl hD⟩, _, rfl, _, DGet.k (k := nkey n) hD, ?_⟩
      rcases look_get (n := n) hp with ⟨h1, h2⟩ | ⟨v, f, h1, h2, h3⟩
      · rw [h1]; exact q _ (by rw [h2]; rfl)
      · rw [h1]; exact q _ (by rw [h2]; exact h3)
theorem ok_said_field (T : Txt K mg) : FnOk P w K mg base CX0 2 T.f_said_field T.d_said_field ["fixed", "entries", "line"] (sp_said_field K) := by
  refine T.F_said_field.ok sc_said_field (fun vs H Q E h => ?_) (fun cdv A outer s H vs Q E hr h => ?_)
  · obtain ⟨t, D, F, es, v, l, rfl, _⟩ := h
    rfl
  · obtain ⟨t, D, F, es, v, l, rfl, hT, ⟨a, rfl, hs⟩, q⟩ := h
    refine ⟨_, (pss_cons (ps_if (pt_cmpR op_eq (pe_ix ix_tup (pv 2) pe_int (fun _ _ => rfl)) pe_str (nomark _)) (pss_one (ps_ret (pe_tup (pa_cons (pe_ix ix_tup (pv 2) pe_int (fun _ _ => rfl)) (pa_cons (pe_ix ix_tup (pv 2) pe_int (fun _ _ => rfl)) pa_nil))))) pss_nil)
      (pss_cons (ps_set (i := 3) sc_said_field.nd rfl (Or.inl rfl) (pe_call (ok_referred T) (hr.mono (by decide)) rfl T.g_referred T.F_referred.kp T.b_referred .nil pass0 (pa_cons (pv 0) (pa_cons (pv 1) (pa_cons (pe_ix ix_tup (pv 2) pe_int (fun _ _ => rfl)) (pa_cons (pe_ix ix_tup (pv 2) pe_int (fun _ _ => rfl)) pa_nil))))))
      (pss_cons (ps_if (PW.pt (pw_or (pt_cmpR op_isN (pv 3) pe_non (nomark _)) (pw_or1 (pt_cmpR op_eq (pe_callB call_len rfl T.z_len boot_len (pa_cons (pv 2) pa_nil)) pe_int (nomark _))))) (pss_one (ps_ret (pv 3))) pss_nil)
      (pss_one (ps_ret (pe_tup (pa_cons (pe_ix ix_tup (pv 3) pe_int (fun _ _ => rfl)) (pa_cons (pe_ix ix_tup (pv 2) pe_int (fun _ _ => rfl)) pa_nil)))))))), ?_⟩
    have e22 : decide (V.int 2 = V.int 2) = true := by decide
    have e32 : decide (V.int 3 = V.int 2) = false := by decide
    cases l with
    | out y x =>
      refine ⟨_, rfl, _, _, _, _, rfl, rfl, hs, rfl, rfl, _, rfl, ifT (by decide) ?_⟩
      refine ⟨_, rfl, _, _, _, _, rfl, rfl, hs, rfl, _, rfl, _, _, _, _, rfl, rfl, hs, rfl, by show 2 ≤ sizeLine; decide, fun p hp => ?_⟩
      exact q _ _ (Same.new hp) ⟨p, rfl, SqT.of upd_same⟩
    | fix1 n =>
      refine ⟨_, rfl, _, _, _, _, rfl, rfl, hs, rfl, rfl, _, rfl, ifF (by decide) ?_⟩
      refine ⟨_, rfl, _, rfl, _, rfl, _, _, _, _, rfl, rfl, hs, rfl, _, rfl, _, _, _, _, rfl, rfl, hs, rfl, t, D, F, es, "fixed", n, rfl, hT, .inl ⟨rfl, fun v hv => ?_⟩⟩
      have hv' : OFd K H v (said1 F es (.fix1 n)) := hv
      cases hc : F[n]? with
      | none => rw [hc] at hv; cases (show v = .non from hv); exact ⟨_, rfl, rfl, _, rfl, ifT rfl ⟨_, rfl, q _ _ (Same.refl _) hv'⟩⟩
      | some f =>
        rw [hc] at hv
        obtain ⟨b, rfl, hb⟩ := (show FdV K H v f from hv)
        exact ⟨_, rfl, rfl, _, rfl, ifF rfl ⟨_, rfl, _, _, rfl, .inr ⟨_, hs, rfl⟩, rfl, _, rfl, ifT e22 ⟨_, rfl, q _ _ (Same.refl _) hv'⟩⟩⟩
    | ent1 n =>
      refine ⟨_, rfl, _, _, _, _, rfl, rfl, hs, rfl, rfl, _, rfl, ifF (by decide) ?_⟩
      refine ⟨_, rfl, _, rfl, _, rfl, _, _, _, _, rfl, rfl, hs, rfl, _, rfl, _, _, _, _, rfl, rfl, hs, rfl, t, D, F, es, "entry", n, rfl, hT, .inr ⟨rfl, fun v hv => ?_⟩⟩
      have hv' : OFd K H v (said1 F es (.ent1 n)) := hv
      cases hc : lookE es n with
      | none => rw [hc] at hv; cases (show v = .non from hv); exact ⟨_, rfl, rfl, _, rfl, ifT rfl ⟨_, rfl, q _ _ (Same.refl _) hv'⟩⟩
      | some f =>
        rw [hc] at hv
        obtain ⟨b, rfl, hb⟩ := (show FdV K H v f from hv)
        exact ⟨_, rfl, rfl, _, rfl, ifF rfl ⟨_, rfl, _, _, rfl, .inr ⟨_, hs, rfl⟩, rfl, _, rfl, ifT e22 ⟨_, rfl, q _ _ (Same.refl _) hv'⟩⟩⟩
    | fix2 n x =>
      refine ⟨_, rfl, _, _, _, _, rfl, rfl, hs, rfl, rfl, _, rfl, ifF (by decide) ?_⟩
      refine ⟨_, rfl, _, rfl, _, rfl, _, _, _, _, rfl, rfl, hs, rfl, _, rfl, _, _, _, _, rfl, rfl, hs, rfl, t, D, F, es, "fixed", n, rfl, hT, .inl ⟨rfl, fun v hv => ?_⟩⟩
      have e1 : said1 F es (.fix2 n x) = (F[n]?).map fun f => (f.1, x) := rfl
      cases hc : F[n]? with
      | none =>
        rw [hc] at hv e1; cases (show v = .non from hv)
        exact ⟨_, rfl, rfl, _, rfl, ifT rfl ⟨_, rfl, q _ _ (Same.refl _) (by rw [e1]; rfl)⟩⟩
      | some f =>
        rw [hc] at hv e1
        obtain ⟨b, rfl, hb⟩ := (show FdV K H v f from hv)
        refine ⟨_, rfl, rfl, _, rfl, ifF rfl ⟨_, rfl, _, _, rfl, .inr ⟨_, hs, rfl⟩, rfl, _, rfl, ifF e32 ?_⟩⟩
        refine ⟨_, rfl, _, _, _, _, rfl, rfl, hb, rfl, _, rfl, _, _, _, _, rfl, rfl, hs, rfl, by show 2 ≤ sizeLine; decide, fun p hp => ?_⟩
        exact q _ _ (Same.new hp) (by rw [e1]; exact ⟨p, rfl, SqT.of upd_same⟩)
    | ent2 n x =>
      refine ⟨_, rfl, _, _, _, _, rfl, rfl, hs, rfl, rfl, _, rfl, ifF (by decide) ?_⟩
      refine ⟨_, rfl, _, rfl, _, rfl, _, _, _, _, rfl, rfl, hs, rfl, _, rfl, _, _, _, _, rfl, rfl, hs, rfl, t, D, F, es, "entry", n, rfl, hT, .inr ⟨rfl, fun v hv => ?_⟩⟩
      have e1 : said1 F es (.ent2 n x) = (lookE es n).map fun f => (f.1, x) := rfl
      cases hc : lookE es n with
      | none =>
        rw [hc] at hv e1; cases (show v = .non from hv)
        exact ⟨_, rfl, rfl, _, rfl, ifT rfl ⟨_, rfl, q _ _ (Same.refl _) (by rw [e1]; rfl)⟩⟩
      | some f =>
        rw [hc] at hv e1
        obtain ⟨b, rfl, hb⟩ := (show FdV K H v f from hv)
        refine ⟨_, rfl, rfl, _, rfl, ifF rfl ⟨_, rfl, _, _, rfl, .inr ⟨_, hs, rfl⟩, rfl, _, rfl, ifF e32 ?_⟩⟩
        refine ⟨_, rfl, _, _, _, _, rfl, rfl, hb, rfl, _, rfl, _, _, _, _, rfl, rfl, hs, rfl, by show 2 ≤ sizeLine; decide, fun p hp => ?_⟩
        exact q _ _ (Same.new hp) (by rw [e1]; exact ⟨p, rfl, SqT.of upd_same⟩)
theorem ok_said_fields (T : Txt K mg) : FnOk P w K mg base CX0 3 T.f_said_fields T.d_said_fields ["fixed", "entries", "lines"] (sp_said_fields K) := by
  refine T.F_said_fields.ok sc_said_fields (fun vs H Q E h => ?_) (fun cdv A outer s H vs Q E hr h => ?_)
  · obtain ⟨t, D, u, F, es, ys, ls, rfl, _⟩ := h
    rfl
  · obtain ⟨t, D, u, F, es, ys, ls, rfl, hT, hu, hls, hl16, q⟩ := h
    have hud : (A.deeper (envOfC "said_fields" (defScope s_said_fields) s.heap.objs.size T.f_said_fields cdv)).units + 64 < cLine := by have := hr.un; omega
    refine ⟨_, (pss_cons (ps_setLc (i := 3) (own := [("line", 4)]) (g := (gName 4)) (tt := tYes)  rfl sc_said_fields.nd rfl rfl (sw_true rfl rfl rfl (by decide +kernel)) (pi_tup (pv 2)) (blkOk_by (own := [("line", 4)]) (N := ["fixed", "entries", "lines", "fields", "line"]) (sc := defScope s_said_fields) (by decide +kernel)) (fun _ _ _ _ _ => (pg_name (i := 4) sc_said_fields.nd rfl (Or.inl rfl))) (fun _ _ _ _ _ => pts_nil) (fun _ _ _ _ _ => (pe_call (ok_said_field T) (hr.mono (by decide)) rfl T.g_said_field T.F_said_field.kp T.b_said_field .nil pass0 (pa_cons (pv 0) (pa_cons (pv 1) (pa_cons (pv 4) pa_nil))))))
      (pss_cons (ps_if (pt_cmpR (op_noneInT hud) pe_non (pv 3) rfl) (pss_one (ps_ret pe_non)) pss_nil)
      (pss_one (ps_ret (pe_callTy call_tuple_of rfl T.z_tuple boot_tuple (pa_cons (pv 3) pa_nil)))))), ?_⟩
    have hlen := hls.len
    refine ⟨_, rfl, u, rfl, ⟨ys, hu⟩, fun C hC => ?_⟩
    refine lc_gen (walk_tup (xs := ys)) (fun i zs H' => (∀ o, H' C = some o → o = .lst zs) ∧ (∀ b o, b ≠ C → H b = some o → H' b = some o) ∧ Paired (fun v l => OFd K H' v (said1 F es l)) zs (ls.take i)) (by omega) ?_ ?_ ?_ ?_
    · refine ⟨fun o e => by rw [upd_same] at e; exact (Option.some.inj e).symm, fun b o n e => by rw [upd_ne n]; exact e, .nil⟩
    · rintro i zs H' ⟨_, k, _⟩
      exact (Same.tup (H := H) (fun b o e => k b o (fun z => by rw [z, hC] at e; cases e) e) hu)
    · rintro i zs x H' H'' Q' Z hi hl hCl ⟨hz, hk, hp⟩ ⟨rfl, hx⟩ q'
      have sH : Same H H'' := fun b o e => hk b o (fun z => by rw [z, hC] at e; cases e) e
      obtain ⟨l, hl1, hl2⟩ := hls.at_ hx
      refine ⟨rfl, yesI ?_⟩
      refine ⟨_, rfl, _, rfl, _, rfl, t, D, F, es, x, l, rfl, hT.same sH, hl2.keep sH, fun r H4 s4 hr4 => ?_⟩
      refine q' r H4 (s4 _ _ hCl) ⟨fun o e => by rw [upd_same] at e; exact (Option.some.inj e).symm, fun b o n e => by rw [upd_ne n]; exact s4 _ _ (hk b o n e), ?_⟩
      have tC : TS H4 (upd H4 C (.lst (zs ++ [r]))) := TS.at (s4 _ _ hCl) nt_lst
      rw [List.take_add_one, hl1]
      exact p_app (pmap (fun _ _ z => (z.ts (.of s4)).ts tC) hp) (.cons (hr4.ts tC) .nil)
    · rintro zs H' hl hCl ⟨hz, hk, hp⟩
      have sH : Same H H' := fun b o e => hk b o (fun z => by rw [z, hC] at e; cases e) e
      rw [List.take_of_length_le (by omega)] at hp
      refine ⟨_, rfl, C, zs, rfl, rfl, SqL.of hCl, ?_, ?_⟩
      · intro z hzm
        obtain ⟨i, hi⟩ := List.getElem?_of_mem hzm
        obtain ⟨l, _, hv⟩ := p_at hp hi
        cases e : said1 F es l with
        | none => rw [e] at hv; exact .inl hv
        | some f => rw [e] at hv; obtain ⟨b, rfl, hb⟩ := (show FdV K H' z f from hv); exact .inr ⟨b, _, rfl, hb⟩
      · rcases said_all hp with ⟨e1, v, hv, rfl⟩ | ⟨fs, e1, hf⟩
        · have : zs.any isNon = true := List.any_eq_true.mpr ⟨_, hv, rfl⟩
          rw [this]
          exact ⟨_, rfl, ifT rfl (q _ _ sH (by rw [e1]; exact .non))⟩
        · have : zs.any isNon = false := by
            rw [List.any_eq_false]
            intro z hzm
            obtain ⟨i, hi⟩ := List.getElem?_of_mem hzm
            obtain ⟨f, _, hv⟩ := p_at hf hi
            obtain ⟨b, rfl, hb⟩ := hv
            exact fun z => nomatch z
          rw [this]
          refine ⟨_, rfl, ifF rfl ⟨_, rfl, C, zs, rfl, .inl ⟨SqL.of hCl, fun p hp2 => ?_⟩⟩⟩
          refine q _ _ (sH.put (sH.free hp2)) ?_
          rw [e1]
          exact .tup (SqT.of upd_same) (FdsV.dp (hf.ts (TS.new hp2)))
theorem ok_says (T : Txt K mg) : FnOk P w K mg base CX0 7 T.f_says T.d_says ["setting", "entries", "block"] (sp_says K) := by
  refine T.F_says.ok sc_says (fun vs H Q E h => ?_) (fun cdv A outer s H vs Q E hr h => ?_)
  · obtain ⟨sv, bv, D, F, r, w, es, b, rfl, _⟩ := h
    rfl
  · obtain ⟨sv, bv, D, F, r, w, es, b, rfl, hS, okS, hE, okE, hB, okB, q⟩ := h
    refine ⟨_, (pss_cons (ps_expr (pe_call (ok_check_setting T) (hr.mono (by decide)) rfl T.g_check_setting T.F_check_setting.kp T.b_check_setting .nil pass0 (pa_cons (pv 0) pa_nil)))
      (pss_cons (ps_expr (pe_call (ok_check_entries T) (hr.mono (by decide)) rfl T.g_check_entries T.F_check_entries.kp T.b_check_entries .nil pass0 (pa_cons (pv 1) pa_nil)))
      (pss_cons (ps_if (pt_not (pt_val (pe_call (ok_is_block T) (hr.mono (by decide)) rfl T.g_is_block T.F_is_block.kp T.b_is_block .nil pass0 (pa_cons (pv 2) pa_nil)))) (pss_one ps_never) pss_nil)
      (pss_one (ps_ret (pe_call (ok_said_fields T) (hr.mono (by decide)) rfl T.g_said_fields T.F_said_fields.kp T.b_said_fields .nil pass0 (pa_cons (pe_ix ix_tup (pv 0) pe_int (fun _ _ => rfl)) (pa_cons (pv 1) (pa_cons (pe_ix ix_tup (pv 2) pe_int (fun _ _ => rfl)) pa_nil))))))))), ?_⟩
    refine ⟨_, rfl, sv, F, r, w, rfl, hS, okS, fun H1 s1 => ?_⟩
    refine ⟨_, rfl, D, es, rfl, hE.same s1, okE, fun H2 s2 => ?_⟩
    refine ⟨_, rfl, bv, b, rfl, (hB.keep s1).keep s2, okB, fun H3 s3 => ⟨_, rfl, ifF rfl ?_⟩⟩
    have sA := (s1.trans s2).trans s3
    obtain ⟨a, t, xs, rfl, h1, h2, h3⟩ := hS.ts (.of sA)
    obtain ⟨ba, bt, ys, rfl, g1, g2, g3⟩ := hB.keep sA
    refine ⟨_, rfl, _, _, _, _, rfl, rfl, h1, rfl, _, rfl, _, rfl, _, _, _, _, rfl, rfl, g1, rfl, t, D, bt, F, es, ys, b.ls, rfl, ⟨⟨xs, h2, h3⟩, hE.same sA⟩, g2, g3, okB.len_, fun rv H4 s4 hd => ?_⟩
    exact q rv H4 (sA.trans s4) hd

theorem ok_referable (T : Txt K mg) : FnOk P w K mg base CX0 1 T.f_referable T.d_referable ["fixed", "entries"] (sp_referable K) := by
  refine T.F_referable.ok sc_referable (fun vs H Q E h => ?_) (fun cdv A outer s H vs Q E hr h => ?_)
  · obtain ⟨t, D, F, es, rfl, _⟩ := h
    rfl
  · obtain ⟨t, D, F, es, rfl, hT, ok, q⟩ := h
    refine ⟨_, (pss_one (ps_ret (pe_op op_cat (pe_lc (own := [("number", 2), ("field", 3)]) (g := (gTup K 2 (gCons (gName 2) (gCons (gName 3) gNil)))) (tt := tYes)  rfl sc_referable.nd (pi_enumT rfl T.z_enumerate (pa_cons (pv 0) pa_nil)) (blkOk_by (own := [("number", 2), ("field", 3)]) (N := ["fixed", "entries", "number", "field"]) (sc := defScope s_referable) (by decide +kernel)) (fun _ _ _ _ _ => (pg_tup rfl (pgs_cons (pg_name (i := 2) sc_referable.nd rfl (Or.inl rfl)) (pgs_cons (pg_name (i := 3) sc_referable.nd rfl (Or.inl rfl)) pgs_nil)))) (fun _ _ _ _ _ => pts_nil) (fun _ _ _ _ _ => (pe_tup (pa_cons pe_int (pa_cons pe_str (pa_cons (pv 2) (pa_cons (pv 3) pa_nil))))))) (pe_lock (pe_lc (own := [("number", 2), ("field", 3)]) (g := (gTup K 2 (gCons (gName 2) (gCons (gName 3) gNil)))) (tt := tYes)  rfl sc_referable.nd (pi_items (pv 1)) (blkOk_by (own := [("number", 2), ("field", 3)]) (N := ["fixed", "entries", "number", "field"]) (sc := defScope s_referable) (by decide +kernel)) (fun _ _ _ _ _ => (pg_tup rfl (pgs_cons (pg_name (i := 2) sc_referable.nd rfl (Or.inl rfl)) (pgs_cons (pg_name (i := 3) sc_referable.nd rfl (Or.inl rfl)) pgs_nil)))) (fun _ _ _ _ _ => pts_nil) (fun _ _ _ _ _ => (pe_tup (pa_cons (pe_op op_add (pv 2) pe_int) (pa_cons pe_str (pa_cons (pv 2) (pa_cons (pv 3) pa_nil))))))))))), ?_⟩
    obtain ⟨⟨xs, hx, hxs⟩, kvs, hD, hp⟩ := id hT
    have hl1 := p_len hxs
    have hl2 := p_len hp
    have hF := ok.fl
    have hE := ok.el
    refine ⟨_, rfl, t, xs, rfl, hx, fun C hC => ?_⟩
    refine lc_rel (R := fun v r H => RfV K H v r) (fun _ _ _ _ t z => z.ts t) (fixR F) walk_enumT (by unfold fixR; rw [List.length_map, List.length_zipIdx]; exact hl1) (by unfold fixR; rw [List.length_map, List.length_zipIdx]; omega) hC (fun H' s => s.tup hx) ?_ ?_
    · rintro i x r H' H'' Q' Z hr s1 _ ⟨T0, a, b, rfl, hT0, rfl, ha, hb⟩ q'
      obtain rfl : V.int (i : Nat) = a := Option.some.inj ha
      have s2 := Same.new (o := .tup [.int (i : Nat), b]) hT0
      have e2 : SqT K (upd H' T0 (.tup [.int (i : Nat), b])) T0 [.int (i : Nat), b] := SqT.of upd_same
      generalize upd H' T0 (.tup [.int (i : Nat), b]) = H2 at s2 e2 ⊢
      refine ⟨T0, _, rfl, e2, rfl, _, _, rfl, _, _, rfl, rfl, rfl, yesI ?_⟩
      obtain ⟨p, hp1, rfl⟩ : ∃ p, F.zipIdx[i]? = some p ∧ (⟨0, false, p.2, p.1⟩ : Rf) = r := by
        unfold fixR at hr; rw [List.getElem?_map] at hr; exact Option.map_eq_some_iff.mp hr
      obtain ⟨f, hf, hfv⟩ := p_at hxs hb
      have ep : p = (f, i) := by
        rw [List.getElem?_zipIdx, hf] at hp1
        have := Option.some.inj hp1
        rw [← this, Nat.zero_add]
      subst ep
      refine ⟨_, rfl, _, rfl, by show 4 ≤ sizeLine; decide, fun T1 hT1 => ?_⟩
      have s3 := Same.new (o := .tup [.int 0, .str "fixed", .int (i : Nat), b]) hT1
      exact q' _ _ (s2.trans s3) ⟨T1, b, rfl, SqT.of upd_same, hfv.ts (.of ((s1.trans s2).trans s3))⟩
    intro ys H1 s1 hC1 hys
    have hD1 := s1 _ _ hD
    refine ⟨D, .dK kvs, hD1, True.intro, fun od => ?_⟩
    have tl : TS H1 (upd H1 D (.frz od (.dK kvs))) := TS.at hD1 nt_dK
    refine ⟨_, rfl, D, od, kvs, rfl, upd_same, fun C2 hC2 => ?_⟩
    have nDC : D ≠ C2 := fun z => by rw [← z, upd_same] at hC2; cases hC2
    refine lc_rel (R := fun v r H => RfV K H v r) (fun _ _ _ _ t z => z.ts t) (entR es) walk_items (by unfold entR; rw [List.length_map]; exact hl2) (by unfold entR; rw [List.length_map]; omega) hC2 (fun H' s => s _ _ upd_same) ?_ ?_
    · rintro i x r H' H'' Q' Z hr s2 _ ⟨T0, a, b, rfl, hT0, rfl, ha, hb⟩ q'
      obtain ⟨e, he, rfl⟩ : ∃ e, es[i]? = some e ∧ (⟨e.1 + 1, true, e.1, e.2⟩ : Rf) = r := by
        unfold entR at hr; rw [List.getElem?_map] at hr; exact Option.map_eq_some_iff.mp hr
      obtain ⟨kv, hkv, hpe⟩ := p_at' hp he
      dsimp only at ha hb
      rw [hkv] at ha hb
      obtain rfl : kV kv.1 = a := Option.some.inj ha
      obtain rfl : kv.2 = b := Option.some.inj hb
      obtain ⟨k1, v1⟩ := kv
      obtain ⟨rfl, hfv⟩ : k1 = nkey e.1 ∧ FdV K H v1 e.2 := hpe
      have s3 := Same.new (o := .tup [kV (nkey e.1), v1]) hT0
      have e3 : SqT K (upd H' T0 (.tup [kV (nkey e.1), v1])) T0 [.int (e.1 : Nat), v1] := SqT.of upd_same
      generalize upd H' T0 (.tup [kV (nkey e.1), v1]) = H3 at s3 e3 ⊢
      refine ⟨T0, _, rfl, e3, rfl, _, _, rfl, _, _, rfl, rfl, rfl, yesI ?_⟩
      refine ⟨_, rfl, _, _, rfl, rfl, _, rfl, _, rfl, by show 4 ≤ sizeLine; decide, fun T1 hT1 => ?_⟩
      have s4 := Same.new (o := .tup [.int ((e.1 : Nat) + 1), .str "entry", .int (e.1 : Nat), v1]) hT1
      exact q' _ _ (s3.trans s4) ⟨T1, v1, rfl, SqT.of upd_same, hfv.ts ((TS.of s1).trans (tl.trans (.of ((s2.trans s3).trans s4))))⟩
    intro zs H2 s2 hC2' hzs
    have sU := unlock hD1 s2
    refine ⟨s2 _ _ upd_same, ?_⟩
    have tU : TS H2 (upd H2 D (.dK kvs)) := fun a u t e => by
      by_cases z : a = D
      · subst z; rw [s2 _ _ upd_same] at e
        have := Option.some.inj e
        subst this
        exact absurd t nt_fD
      · rw [upd_ne z]; exact e
    have hzs' := pmap (fun _ _ z => RfV.ts z tU) hzs
    have gC2 : upd H2 D (.dK kvs) C2 = some (.lst zs) := by rw [upd_ne (Ne.symm nDC)]; exact hC2'
    generalize upd H2 D (.dK kvs) = H3 at sU hzs' gC2 ⊢
    have l1 := p_len hys
    have l2 := p_len hzs
    have l3 := refs_len ok
    unfold refs at l3
    rw [List.length_append] at l3
    refine ⟨C, C2, ys, zs, rfl, rfl, sU _ _ hC1, gC2, by rw [sizeLine_eq]; omega, fun p hp => ?_⟩
    have sp := Same.new (o := .lst (ys ++ zs)) hp
    refine q p _ _ ((s1.trans sU).trans sp) ((s1.trans sU).free hp) upd_same ?_
    exact p_app (pmap (fun _ _ z => RfV.ts z (.of (sU.trans sp))) hys) (pmap (fun _ _ z => RfV.ts z (.of sp)) hzs')

theorem ok_line_choices (T : Txt K mg) : FnOk P w K mg base CX0 7 T.f_line_choices T.d_line_choices ["fixed", "entries", "field", "base"] (sp_line_choices K) := by
  refine T.F_line_choices.ok sc_line_choices (fun vs H Q E h => ?_) (fun cdv A outer s H vs Q E hr h => ?_)
  · obtain ⟨t, D, F, es, fv, f, b, rfl, _⟩ := h
    rfl
  · obtain ⟨t, D, F, es, fv, f, b, rfl, hT, ok, hf, okf, hb, q⟩ := h
    have hud : (A.deeper (envOfC "line_choices" (defScope s_line_choices) s.heap.objs.size T.f_line_choices cdv)).units + 64 < cLine := by have := hr.un; omega
    refine ⟨_, (pss_cons (ps_asg (pv 2) (pg_tup rfl (pgs_cons (pg_name (i := 4) sc_line_choices.nd rfl (Or.inl rfl)) (pgs_cons (pg_name (i := 5) sc_line_choices.nd rfl (Or.inl rfl)) pgs_nil))))
      (pss_cons (ps_set (i := 6) sc_line_choices.nd rfl (Or.inl rfl) (pe_tup (pa_cons pe_str (pa_cons (pv 4) (pa_cons (pv 5) pa_nil)))))
      (pss_cons (ps_set (i := 7) sc_line_choices.nd rfl (Or.inl rfl) (pe_callB call_len rfl T.z_len boot_len (pa_cons (pe_call (ok_value_octets T) (hr.mono (by decide)) rfl T.g_value_octets T.F_value_octets.kp T.b_value_octets .nil pass0 (pa_cons (pv 5) pa_nil)) pa_nil)))
      (pss_cons (ps_set (i := 8) sc_line_choices.nd rfl (Or.inl rfl) (pe_lst (pa_cons (pe_tup (pa_cons pe_int (pa_cons (pe_callB call_len rfl T.z_len boot_len (pa_cons (pe_call (ok_line_octets T) (hr.mono (by decide)) rfl T.g_line_octets T.F_line_octets.kp T.b_line_octets .nil pass0 (pa_cons (pv 6) (pa_cons (pv 3) pa_nil))) pa_nil)) (pa_cons (pv 6) pa_nil)))) pa_nil)))
      (pss_cons (ps_for PassesOwn.never rfl (pi_list (pe_call (ok_referable T) (hr.mono (by decide)) rfl T.g_referable T.F_referable.kp T.b_referable .nil pass0 (pa_cons (pv 0) (pa_cons (pv 1) pa_nil)))) (pg_tup rfl (pgs_cons (pg_name (i := 9) sc_line_choices.nd rfl (Or.inl rfl)) (pgs_cons (pg_name (i := 10) sc_line_choices.nd rfl (Or.inl rfl)) (pgs_cons (pg_name (i := 11) sc_line_choices.nd rfl (Or.inl rfl)) (pgs_cons (pg_name (i := 12) sc_line_choices.nd rfl (Or.inl rfl)) pgs_nil)))))
        (pss_one (ps_if (pt_cmpR (op_eqD hud) (pv 12) (pv 2) (nomark _)) (pss_one (ps_expr (pe_bm PySem.F.plainAttrs_list PySem.F.slot_list_append PySem.F.type_list_append mt_append (pv 8) (pa_cons (pe_tup (pa_cons (pv 9) (pa_cons (pe_callB call_len rfl T.z_len boot_len (pa_cons (pe_call (ok_whole_octets T) (hr.mono (by decide)) rfl T.g_whole_octets T.F_whole_octets.kp T.b_whole_octets .nil pass0 (pa_cons (pv 10) (pa_cons (pv 11) (pa_cons (pv 3) pa_nil)))) pa_nil)) (pa_cons (pe_tup (pa_cons (pv 10) (pa_cons (pv 11) pa_nil))) pa_nil)))) pa_nil)))) (pss_one (ps_if (pt_cmpR op_eq (pe_ix ix_tup (pv 12) pe_int (fun _ _ => rfl)) (pv 4) (nomark _)) (pss_cons (ps_set (i := 13) sc_line_choices.nd rfl (Or.inl rfl) (pe_op op_add (pe_callB call_len rfl T.z_len boot_len (pa_cons (pe_call (ok_named_octets T) (hr.mono (by decide)) rfl T.g_named_octets T.F_named_octets.kp T.b_named_octets .nil pass0 (pa_cons (pv 10) (pa_cons (pv 11) (pa_cons (pv 3) pa_nil)))) pa_nil)) (pv 7)))
      (pss_one (ps_expr (pe_bm PySem.F.plainAttrs_list PySem.F.slot_list_append PySem.F.type_list_append mt_append (pv 8) (pa_cons (pe_tup (pa_cons (pv 9) (pa_cons (pv 13) (pa_cons (pe_tup (pa_cons (pv 10) (pa_cons (pv 11) (pa_cons (pv 5) pa_nil)))) pa_nil)))) pa_nil))))) pss_nil)))))
      (pss_one (ps_ret (pv 8)))))))), ?_⟩
    obtain ⟨fa, rfl, hfa⟩ := id hf
    refine ⟨_, rfl, fa, _, rfl, hfa, rfl, _, _, rfl, _, _, rfl, rfl, ?_⟩
    refine ⟨_, rfl, _, rfl, by show 3 ≤ sizeLine; decide, fun ln hln => ?_⟩
    have s1 := Same.new (o := .tup [.str "out", .str f.1, .str f.2]) hln
    have e1 : LnV K (upd H ln (.tup [.str "out", .str f.1, .str f.2])) (.ref ln) (.out f.1 f.2) := ⟨ln, rfl, SqT.of upd_same⟩
    generalize upd H ln (.tup [.str "out", .str f.1, .str f.2]) = H1 at s1 e1 ⊢
    refine ⟨_, rfl, f.2, rfl, okf.v, fun p2 H2 hp2 s2 g2 => ?_⟩
    refine ⟨_, _, rfl, .inl ⟨_, SqL.of g2, rfl⟩, ?_⟩
    refine ⟨_, rfl, _, rfl, .ref ln, .out f.1 f.2, b, b, rfl, e1.keep s2, ⟨okf.n, okf.v⟩, by omega, Nat.le_refl _, fun p3 H3 hp3 s3 g3 => ?_⟩
    refine ⟨_, _, rfl, .inl ⟨_, SqL.of g3, rfl⟩, _, rfl, by show 3 ≤ sizeLine; decide, fun T1 hT1 => ?_⟩
    rw [List.length_map, List.length_map]
    have s4 := Same.new (o := .tup [.int 0, .int (((Ln.out f.1 f.2).oct b).length : Nat), .ref ln]) hT1
    have e4 : SqT K (upd H3 T1 (.tup [.int 0, .int (((Ln.out f.1 f.2).oct b).length : Nat), .ref ln])) T1 [.int 0, .int (((Ln.out f.1 f.2).oct b).length : Nat), .ref ln] := SqT.of upd_same
    generalize upd H3 T1 (.tup [.int 0, .int (((Ln.out f.1 f.2).oct b).length : Nat), .ref ln]) = H4 at s4 e4 ⊢
    refine ⟨by show 1 ≤ sizeLine; decide, fun L hL => ?_⟩
    have s5 := Same.new (o := .lst [.ref T1]) hL
    have gL : upd H4 L (.lst [.ref T1]) L = some (.lst [.ref T1]) := upd_same
    have s14 := ((s1.trans s2).trans s3).trans s4
    have hL0 := s14.free hL
    have sA := s14.trans s5
    have t0 : TriV K (upd H4 L (.lst [.ref T1])) (.ref T1) (tri b (.out f.1 f.2)) := ⟨T1, _, rfl, s5.tup e4, e1.keep (((s2.trans s3).trans s4).trans s5)⟩
    generalize upd H4 L (.lst [.ref T1]) = H5 at s5 gL sA t0 ⊢
    refine ⟨_, rfl, _, rfl, t, D, F, es, rfl, hT.same sA, ok, fun R ys0 H6 s6 hR gR hys => ?_⟩
    have gL6 := s6 _ _ gL
    have nRL : R ≠ L := fun z => by rw [z, gL] at hR; cases hR
    have sB := sA.trans s6
    have hrl := refs_len ok
    have hyl := p_len hys
    refine ⟨R, rfl, ⟨ys0, SqL.of gR⟩, ?_⟩
    refine for_list (K := K) (a := R) (xs := ys0) (fun i σ H' => ∃ (v9 v10 v11 v12 v13 : Option V) (ys : List V), σ = [some (.ref t), some (.ref D), some (.ref fa), some (.int (b : Nat)), some (.str f.1), some (.str f.2), some (.ref ln), some (.int ((strOct f.2 7 0).length : Nat)), some (.ref L), v9, v10, v11, v12, v13] ∧ (∀ c o, c ≠ L → H6 c = some o → H' c = some o) ∧ H' L = some (.lst ys) ∧
        TrisV K H' ys ((Ln.out f.1 f.2 :: ((refs F es).take i).filterMap (Rf.ln f)).map (tri b))) ⟨_, _, _, _, _, _, rfl, fun _ _ _ z => z, gL6, .cons (t0.ts (.of s6)) .nil⟩ (fun i σ H' _ ⟨_, _, _, _, _, _, _, k, _⟩ => SqL.of (k _ _ nRL gR)) ?_ ?_
    · rintro i x σ H7 hx ⟨v9, v10, v11, v12, v13, ys, rfl, k7, g7, h7⟩
      obtain ⟨r, hr0, a, ov, rfl, ha, hov⟩ := p_at hys hx
      have rok := refs_ok ok r (List.mem_of_getElem? hr0)
      have t67 : TS H6 H7 := fun c u z e => k7 c u (fun y => by rw [y, gL6] at e; have := Option.some.inj e; subst this; exact absurd z nt_lst) e
      have ha7 := t67.tup ha
      have hov7 := hov.ts t67
      have hfa7 : SqT K H7 fa [.str f.1, .str f.2] := t67.tup (sB.tup hfa)
      refine ⟨a, _, rfl, ha7, rfl, _, _, rfl, _, _, rfl, _, _, rfl, _, _, rfl, rfl, ?_⟩
      have est := lines_step (f := f) hr0
      have hyl7 := p_len h7
      have hll : ((Ln.out f.1 f.2 :: ((refs F es).take i).filterMap (Rf.ln f)).map (tri b)).length ≤ 200 := by
        have h2 := List.length_filterMap_le (Rf.ln f) ((refs F es).take i)
        have h3 := List.length_take_le i (refs F es)
        have h4 := List.length_take_le' i (refs F es)
        rw [List.length_map]
        show (((refs F es).take i).filterMap (Rf.ln f)).length + 1 ≤ 200
        omega
      have sz : ys.length < sizeLine := by rw [sizeLine_eq]; omega
      -- a line more
      have fin : ∀ (l : Ln) (T2 : Addr) (H8 : Hp) (w9 w10 w11 w12 w13 : Option V), Rf.ln f r = some l → Same H7 H8 → TriV K H8 (.ref T2) (tri b l) → ∃ (v9 v10 v11 v12 v13 : Option V) (ys' : List V), [some (V.ref t), some (V.ref D), some (V.ref fa), some (.int (b : Nat)), some (.str f.1), some (.str f.2), some (V.ref ln), some (.int ((strOct f.2 7 0).length : Nat)), some (V.ref L), w9, w10, w11, w12, w13] = [some (V.ref t), some (V.ref D), some (V.ref fa), some (.int (b : Nat)), some (.str f.1), some (.str f.2), some (V.ref ln), some (.int ((strOct f.2 7 0).length : Nat)), some (V.ref L), v9, v10, v11, v12, v13] ∧ (∀ c o, c ≠ L → H6 c = some o → upd H8 L (.lst (ys ++ [V.ref T2])) c = some o) ∧ upd H8 L (.lst (ys ++ [V.ref T2])) L = some (.lst ys') ∧
          TrisV K (upd H8 L (.lst (ys ++ [V.ref T2]))) ys' ((Ln.out f.1 f.2 :: ((refs F es).take (i + 1)).filterMap (Rf.ln f)).map (tri b)) := by
        intro l T2 H8 w9 w10 w11 w12 w13 el s8 hT2
        have g8 := s8 _ _ g7
        have tL : TS H8 (upd H8 L (.lst (ys ++ [V.ref T2]))) := TS.at g8 nt_lst
        refine ⟨_, _, _, _, _, _, rfl, fun c o n e => by rw [upd_ne n]; exact s8 _ _ (k7 c o n e), upd_same, ?_⟩
        rw [est, el]
        show TrisV K _ (ys ++ [V.ref T2]) ((Ln.out f.1 f.2 :: (((refs F es).take i).filterMap (Rf.ln f) ++ [l])).map (tri b))
        rw [← List.cons_append, List.map_append]
        exact p_app (h7.ts ((TS.of s8).trans tL)) (.cons (hT2.ts tL) .nil)
      have idle : Rf.ln f r = none → ∀ (w9 w10 w11 w12 w13 : Option V), ∃ (v9 v10 v11 v12 v13 : Option V) (ys' : List V), [some (V.ref t), some (V.ref D), some (V.ref fa), some (.int (b : Nat)), some (.str f.1), some (.str f.2), some (V.ref ln), some (.int ((strOct f.2 7 0).length : Nat)), some (V.ref L), w9, w10, w11, w12, w13] = [some (V.ref t), some (V.ref D), some (V.ref fa), some (.int (b : Nat)), some (.str f.1), some (.str f.2), some (V.ref ln), some (.int ((strOct f.2 7 0).length : Nat)), some (V.ref L), v9, v10, v11, v12, v13] ∧ (∀ c o, c ≠ L → H6 c = some o → H7 c = some o) ∧ H7 L = some (.lst ys') ∧
          TrisV K H7 ys' ((Ln.out f.1 f.2 :: ((refs F es).take (i + 1)).filterMap (Rf.ln f)).map (tri b)) := by
        intro el w9 w10 w11 w12 w13
        refine ⟨_, _, _, _, _, _, rfl, k7, g7, ?_⟩
        rw [est, el]
        show TrisV K _ ys ((Ln.out f.1 f.2 :: (((refs F es).take i).filterMap (Rf.ln f) ++ [])).map (tri b))
        rw [List.append_nil]
        exact h7
      refine ⟨_, rfl, _, rfl, fdat r.o, fdat f, hov7.dp, (show FdV K H7 (.ref fa) f from ⟨fa, rfl, hfa7⟩).dp, fd_shaped rok.ok, fd_shaped okf, ?_⟩
      rw [fd_eqv]
      refine ⟨_, rfl, ifb (fun h => ?_) (fun h => ?_)⟩
      · have eo : r.o = f := of_decide_eq_true h
        obtain ⟨rq, en, n, o⟩ := r
        have n9 : n ≤ 9999 := rok.n9
        have eo' : o = f := eo
        refine ⟨_, rfl, .inl ⟨rfl, _, SqL.of g7⟩, _, rfl, _, rfl, _, rfl, _, rfl, _, n, b, rfl, n9, hb, ?_⟩
        cases en
        · have el : Rf.ln f ⟨rq, false, n, o⟩ = some (.fix1 n) := by unfold Rf.ln; rw [if_pos eo']; rfl
          have erq : rq = 0 := by
            rcases List.mem_append.mp (List.mem_of_getElem? hr0) with m | m
            · obtain ⟨p, _, hp⟩ := List.mem_map.mp m; cases hp; rfl
            · obtain ⟨p, _, hp⟩ := List.mem_map.mp m; cases hp
          subst erq
          refine .inl ⟨rfl, fun p8 H8 hp8 s8 g8 => ⟨_, _, rfl, .inl ⟨_, SqL.of g8, rfl⟩, _, rfl, _, rfl, by show 2 ≤ sizeLine; decide, fun T1 hT1 => ?_⟩⟩
          rw [List.length_map]
          have s9 := Same.new (o := .tup [.str "fixed", .int (n : Nat)]) hT1
          have e9 : LnV K (upd H8 T1 (.tup [.str "fixed", .int (n : Nat)])) (.ref T1) (.fix1 n) := ⟨T1, rfl, SqT.of upd_same⟩
          refine ⟨by show 3 ≤ sizeLine; decide, fun T2 hT2 => ?_⟩
          have s10 := Same.new (o := .tup [.int (0 : Nat), .int ((numOct n 6 192).length : Nat), .ref T1]) hT2
          exact ⟨L, _, _, rfl, rfl, ((s8.trans s9).trans s10) _ _ g7, sz, fin _ T2 _ _ _ _ _ _ el ((s8.trans s9).trans s10) ⟨T2, .ref T1, rfl, SqT.of upd_same, e9.keep s10⟩⟩
        · have el : Rf.ln f ⟨rq, true, n, o⟩ = some (.ent1 n) := by unfold Rf.ln; rw [if_pos eo']; rfl
          have erq : rq = n + 1 := by
            rcases List.mem_append.mp (List.mem_of_getElem? hr0) with m | m
            · obtain ⟨p, _, hp⟩ := List.mem_map.mp m; cases hp
            · obtain ⟨p, _, hp⟩ := List.mem_map.mp m; cases hp; rfl
          subst erq
          refine .inr ⟨rfl, fun p8 H8 hp8 s8 g8 => ⟨_, _, rfl, .inl ⟨_, SqL.of g8, rfl⟩, _, rfl, _, rfl, by show 2 ≤ sizeLine; decide, fun T1 hT1 => ?_⟩⟩
          rw [List.length_map]
          have s9 := Same.new (o := .tup [.str "entry", .int (n : Nat)]) hT1
          have e9 : LnV K (upd H8 T1 (.tup [.str "entry", .int (n : Nat)])) (.ref T1) (.ent1 n) := ⟨T1, rfl, SqT.of upd_same⟩
          refine ⟨by show 3 ≤ sizeLine; decide, fun T2 hT2 => ?_⟩
          have s10 := Same.new (o := .tup [.int ((n + 1 : Nat) : Nat), .int ((wholeOct b n).length : Nat), .ref T1]) hT2
          exact ⟨L, _, _, rfl, rfl, ((s8.trans s9).trans s10) _ _ g7, sz, fin _ T2 _ _ _ _ _ _ el ((s8.trans s9).trans s10) ⟨T2, .ref T1, rfl, SqT.of upd_same, e9.keep s10⟩⟩
      · have no : r.o ≠ f := of_decide_eq_false h
        obtain ⟨oa, rfl, hoa⟩ := id hov7
        refine ⟨_, rfl, _, _, _, _, rfl, rfl, hoa, rfl, _, rfl, rfl, _, rfl, ifb (fun h2 => ?_) (fun h2 => ?_)⟩
        · have e1 : r.o.1 = f.1 := by
            have : V.str r.o.1 = V.str f.1 := of_decide_eq_true h2
            exact V.str.inj this
          obtain ⟨rq, en, n, o⟩ := r
          have n9 : n ≤ 9999 := rok.n9
          have no' : o ≠ f := no
          have e1' : o.1 = f.1 := e1
          refine ⟨_, rfl, _, rfl, _, rfl, _, n, b, rfl, n9, hb, ?_⟩
          cases en
          · have el : Rf.ln f ⟨rq, false, n, o⟩ = some (.fix2 n f.2) := by unfold Rf.ln; rw [if_neg no', if_pos e1']; rfl
            have erq : rq = 0 := by
              rcases List.mem_append.mp (List.mem_of_getElem? hr0) with m | m
              · obtain ⟨p, _, hp⟩ := List.mem_map.mp m; cases hp; rfl
              · obtain ⟨p, _, hp⟩ := List.mem_map.mp m; cases hp
            subst erq
            refine .inl ⟨rfl, fun p8 H8 hp8 s8 g8 => ⟨_, _, rfl, .inl ⟨_, SqL.of g8, rfl⟩, _, rfl, _, _, rfl, rfl, ?_⟩⟩
            rw [List.length_map]
            refine ⟨_, rfl, .inl ⟨rfl, _, SqL.of (s8 _ _ g7)⟩, _, rfl, _, rfl, _, rfl, _, rfl, _, rfl, by show 3 ≤ sizeLine; decide, fun T1 hT1 => ?_⟩
            have s9 := Same.new (o := .tup [.str "fixed", .int (n : Nat), .str f.2]) hT1
            have e9 : LnV K (upd H8 T1 (.tup [.str "fixed", .int (n : Nat), .str f.2])) (.ref T1) (.fix2 n f.2) := ⟨T1, rfl, SqT.of upd_same⟩
            refine ⟨by show 3 ≤ sizeLine; decide, fun T2 hT2 => ?_⟩
            have s10 := Same.new (o := .tup [.int (0 : Nat), .int (((numOct n 4 96).length : Nat) + ((strOct f.2 7 0).length : Nat)), .ref T1]) hT2
            refine ⟨L, _, _, rfl, rfl, ((s8.trans s9).trans s10) _ _ g7, sz, fin _ T2 _ _ _ _ _ _ el ((s8.trans s9).trans s10) ⟨T2, .ref T1, rfl, ?_, e9.keep s10⟩⟩
            have : (tri b (.fix2 n f.2)).2.1 = ((numOct n 4 96).length : Nat) + ((strOct f.2 7 0).length : Nat) := by
              show (((numOct n 4 96 ++ strOct f.2 7 0).length : Nat) : Int) = _
              rw [List.length_append]; omega
            rw [this]
            exact SqT.of upd_same
          · have el : Rf.ln f ⟨rq, true, n, o⟩ = some (.ent2 n f.2) := by unfold Rf.ln; rw [if_neg no', if_pos e1']; rfl
            have erq : rq = n + 1 := by
              rcases List.mem_append.mp (List.mem_of_getElem? hr0) with m | m
              · obtain ⟨p, _, hp⟩ := List.mem_map.mp m; cases hp
              · obtain ⟨p, _, hp⟩ := List.mem_map.mp m; cases hp; rfl
            subst erq
            refine .inr ⟨rfl, fun p8 H8 hp8 s8 g8 => ⟨_, _, rfl, .inl ⟨_, SqL.of g8, rfl⟩, _, rfl, _, _, rfl, rfl, ?_⟩⟩
            rw [List.length_map]
            refine ⟨_, rfl, .inl ⟨rfl, _, SqL.of (s8 _ _ g7)⟩, _, rfl, _, rfl, _, rfl, _, rfl, _, rfl, by show 3 ≤ sizeLine; decide, fun T1 hT1 => ?_⟩
            have s9 := Same.new (o := .tup [.str "entry", .int (n : Nat), .str f.2]) hT1
            have e9 : LnV K (upd H8 T1 (.tup [.str "entry", .int (n : Nat), .str f.2])) (.ref T1) (.ent2 n f.2) := ⟨T1, rfl, SqT.of upd_same⟩
            refine ⟨by show 3 ≤ sizeLine; decide, fun T2 hT2 => ?_⟩
            have s10 := Same.new (o := .tup [.int ((n + 1 : Nat) : Nat), .int (((namedOct b n).length : Nat) + ((strOct f.2 7 0).length : Nat)), .ref T1]) hT2
            refine ⟨L, _, _, rfl, rfl, ((s8.trans s9).trans s10) _ _ g7, sz, fin _ T2 _ _ _ _ _ _ el ((s8.trans s9).trans s10) ⟨T2, .ref T1, rfl, ?_, e9.keep s10⟩⟩
            have : (tri b (.ent2 n f.2)).2.1 = ((namedOct b n).length : Nat) + ((strOct f.2 7 0).length : Nat) := by
              show (((namedOct b n ++ strOct f.2 7 0).length : Nat) : Int) = _
              rw [List.length_append]; omega
            rw [this]
            exact SqT.of upd_same
        · have e1 : r.o.1 ≠ f.1 := fun z => by
            have : ¬ V.str r.o.1 = V.str f.1 := of_decide_eq_false h2
            exact this (by rw [z])
          exact idle (by unfold Rf.ln; rw [if_neg no, if_neg e1]) _ _ _ _ _
    · rintro σ H7 ⟨v9, v10, v11, v12, v13, ys, rfl, k7, g7, h7⟩
      rw [List.take_of_length_le (by omega)] at h7
      refine ⟨_, rfl, q L ys H7 (fun c o e => k7 c o (fun z => by rw [z, hL0] at e; cases e) (sB _ _ e)) hL0 g7 h7⟩

theorem ok_best_choices (T : Txt K mg) : FnOk P w K mg base CX0 8 T.f_best_choices T.d_best_choices ["fixed", "entries", "field", "base"] (sp_best_choices K) := by
  refine T.F_best_choices.ok sc_best_choices (fun vs H Q E h => ?_) (fun cdv A outer s H vs Q E hr h => ?_)
  · obtain ⟨t, D, F, es, fv, f, b, rfl, _⟩ := h
    rfl
  · obtain ⟨t, D, F, es, fv, f, b, rfl, hT, ok, hf, okf, hb, q⟩ := h
    have hu70 : (A.deeper (envOfC "best_choices" (defScope s_best_choices) s.heap.objs.size T.f_best_choices cdv)).units + 70 < cLine := by have := hr.un; omega
    refine ⟨_, (pss_cons (ps_set (i := 4) sc_best_choices.nd rfl (Or.inl rfl) (pe_lst pa_nil))
      (pss_cons (ps_for PassesOwn.never rfl (pi_list (pe_callB (cr_sortedTri hu70) rfl T.z_sorted boot_sorted (pa_cons (pe_call (ok_line_choices T) (hr.mono (by decide)) rfl T.g_line_choices T.F_line_choices.kp T.b_line_choices .nil pass0 (pa_cons (pv 0) (pa_cons (pv 1) (pa_cons (pv 2) (pa_cons (pv 3) pa_nil))))) pa_nil))) (pg_name (i := 5) sc_best_choices.nd rfl (Or.inl rfl))
        (pss_one (ps_if (PW.pt (pw_or (pt_not (pt_truth (pv 4) (by intro _; rfl))) (pw_or1 (pt_cmpR op_lt (pe_ix ix_tup (pv 5) pe_int (fun _ _ => rfl)) (pe_ix ix_tup (pe_ix ix_list (pv 4) (pe_un un_neg pe_int) (fun _ _ => rfl)) pe_int (fun _ _ => rfl)) (nomark _))))) (pss_one (ps_expr (pe_bm PySem.F.plainAttrs_list PySem.F.slot_list_append PySem.F.type_list_append mt_append (pv 4) (pa_cons (pv 5) pa_nil)))) pss_nil)))
      (pss_one (ps_ret (pv 4))))), ?_⟩
    refine ⟨by show 0 ≤ sizeLine; decide, fun L hL => ?_⟩
    have s1 := Same.new (o := .lst []) hL
    have gL : upd H L (.lst []) L = some (.lst []) := upd_same
    generalize upd H L (.lst []) = H1 at s1 gL ⊢
    refine ⟨_, rfl, _, rfl, _, rfl, _, rfl, t, D, F, es, fv, f, b, rfl, hT.same s1, ok, hf.ts (.of s1), okf, hb, fun a ys H2 s2 ha ga hys => ?_⟩
    have gL2 := s2 _ _ gL
    refine ⟨a, ys, _, rfl, SqL.of ga, hys, fun zs us p hzs perm srt hp => ?_⟩
    have s3 := Same.new (o := .lst zs) hp
    have g3 : upd H2 p (.lst zs) p = some (.lst zs) := upd_same
    have gL3 := s3 _ _ gL2
    have hzs3 := hzs.ts (.of s3)
    generalize upd H2 p (.lst zs) = H3 at s3 g3 gL3 hzs3 ⊢
    have sA := (s1.trans s2).trans s3
    have npL : p ≠ L := fun z => by rw [z, gL2] at hp; cases hp
    have hll := lines_len ok f
    have hul : us.length ≤ 104 := by have := perm.length_eq; rw [List.length_map] at this; omega
    have hzl := p_len hzs
    refine ⟨p, rfl, ⟨zs, SqL.of g3⟩, ?_⟩
    refine for_list (K := K) (a := p) (xs := zs) (fun i σ H' => ∃ (v5 : Option V) (xs : List V), σ = [some (.ref t), some (.ref D), some fv, some (.int (b : Nat)), some (.ref L), v5] ∧ (∀ c o, c ≠ L → H3 c = some o → H' c = some o) ∧ H' L = some (.lst xs) ∧ TrisV K H' xs ((us.take i).foldl keepS []))
      ⟨_, _, rfl, fun _ _ _ z => z, gL3, .nil⟩ (fun i σ H' _ ⟨_, _, _, k, _⟩ => SqL.of (k _ _ npL g3)) ?_ ?_
    · rintro i x σ H4 hx ⟨v5, xs, rfl, k4, g4, h4⟩
      obtain ⟨u, hu, hux⟩ := p_at hzs3 hx
      have t34 : TS H3 H4 := fun c u z e => k4 c u (fun y => by rw [y, gL3] at e; have := Option.some.inj e; subst this; exact absurd z nt_lst) e
      have hu4 := hux.ts t34
      have est := fold_step hu
      have hfl := foldK_len (us.take i) []
      have htl := List.length_take_le' i us
      have hxl := p_len h4
      have sz : xs.length < sizeLine := by rw [sizeLine_eq]; simp only [List.length_nil] at hfl; omega
      obtain ⟨ua, uln, rfl, hus, hul2⟩ := id hu4
      have add : keepS ((us.take i).foldl keepS []) u = (us.take i).foldl keepS [] ++ [u] → ∃ (w5 : Option V) (xs' : List V), [some (V.ref t), some (.ref D), some fv, some (.int (b : Nat)), some (.ref L), some (V.ref ua)] = [some (V.ref t), some (.ref D), some fv, some (.int (b : Nat)), some (.ref L), w5] ∧ (∀ c o, c ≠ L → H3 c = some o → upd H4 L (.lst (xs ++ [V.ref ua])) c = some o) ∧ upd H4 L (.lst (xs ++ [V.ref ua])) L = some (.lst xs') ∧ TrisV K (upd H4 L (.lst (xs ++ [V.ref ua]))) xs' ((us.take (i + 1)).foldl keepS []) := fun e => by
        have tL : TS H4 (upd H4 L (.lst (xs ++ [V.ref ua]))) := TS.at g4 nt_lst
        refine ⟨_, _, rfl, fun c o n e => by rw [upd_ne n]; exact k4 c o n e, upd_same, ?_⟩
        rw [est, e]
        exact p_app (h4.ts tL) (.cons (hu4.ts tL) .nil)
      refine ⟨_, rfl, _, .inl ⟨xs, SqL.of g4, rfl⟩, ?_⟩
      cases e : ((us.take i).foldl keepS []).getLast? with
      | none =>
        have ek : (us.take i).foldl keepS [] = [] := List.getLast?_eq_none_iff.mp e
        have ex : xs = [] := by rw [ek] at h4; cases h4; rfl
        have ea : keepS ((us.take i).foldl keepS []) u = (us.take i).foldl keepS [] ++ [u] := keepS_none e
        have hadd := add ea
        subst ex
        refine ⟨_, rfl, .inl ⟨rfl, _, SqL.of g4⟩, _, rfl, ?_⟩
        exact ⟨L, _, _, rfl, rfl, g4, sz, hadd⟩
      | some k =>
        obtain ⟨xs0, xk, rfl, hk⟩ := p_last h4 e
        obtain ⟨ka, kln, rfl, hks, _⟩ := hk
        rw [show (!(!(xs0 ++ [V.ref ka]).isEmpty)) = false by simp]
        refine ⟨_, rfl, _, _, _, _, rfl, rfl, hus, rfl, ?_⟩
        have hx0 : xs0.length ≤ 100000 := by rw [List.length_append] at hxl; simp only [List.length_nil] at hfl; omega
        refine ⟨_, rfl, _, rfl, _, _, _, _, rfl, rfl, SqL.of g4, at_last hx0, _, _, _, _, rfl, rfl, hks, rfl, _, _, rfl, rfl, _, rfl, ifb (fun h => ?_) (fun h => ?_)⟩
        · have hadd := add (keepS_lt e (of_decide_eq_true h))
          refine ⟨_, rfl, .inl ⟨rfl, _, SqL.of g4⟩, _, rfl, ?_⟩
          exact ⟨L, _, _, rfl, rfl, g4, sz, hadd⟩
        · exact ⟨_, _, rfl, k4, g4, by rw [est, keepS_ge e (of_decide_eq_false h)]; exact h4⟩
    · rintro σ H4 ⟨v5, xs, rfl, k4, g4, h4⟩
      rw [List.take_of_length_le (by omega)] at h4
      exact ⟨_, rfl, q L xs _ H4 (fun c o e => k4 c o (fun z => by rw [z, hL] at e; cases e) (sA _ _ e)) hL g4 h4 ((best_of srt).perm perm) (by have := foldK_len us []; simp only [List.length_nil] at this; omega)⟩
theorem ok_best_choice (T : Txt K mg) : FnOk P w K mg base CX0 1 T.f_best_choice T.d_best_choice ["choices", "required"] (sp_best_choice K) := by
  refine T.F_best_choice.ok sc_best_choice (fun vs H Q E h => ?_) (fun cdv A outer s H vs Q E hr h => ?_)
  · obtain ⟨a, xs, ks, cs, R, rfl, _⟩ := h
    rfl
  · obtain ⟨a, xs, ks, cs, R, rfl, ha, hx, hB, hcl, ⟨c0, hc0, hr0⟩, hkl, q⟩ := h
    refine ⟨_, (pss_one (ps_ret (pe_ix ix_list (pe_lc (own := [("choice", 2)]) (g := (gName 2))  rfl sc_best_choice.nd (pi_list (pv 0)) (blkOk_by (own := [("choice", 2)]) (N := ["choices", "required", "choice"]) (sc := defScope s_best_choice) (by decide +kernel)) (fun _ _ _ _ _ => (pg_name (i := 2) sc_best_choice.nd rfl (Or.inl rfl))) (fun _ _ _ _ _ => pts_one (pt_cmpR op_le (pe_ix (ixK (K := K) (r := rIxT) ix_tup) (pv 2) pe_int (fun _ _ => rfl)) (pv 1) (nomark _))) (fun _ _ _ _ _ => (pv 2))) (pe_un un_neg pe_int) (fun _ _ => rfl)))), ?_⟩
    have hxl := p_len hx
    refine ⟨_, rfl, a, rfl, ⟨xs, ha⟩, fun C hC => ?_⟩
    refine lc_relF (R := fun v k H => TriV K H v k) (fun c => decide (c.1 ≤ (R : Int))) (fun _ _ _ _ t z => z.ts t) ks walk_list hxl (by omega) hC (fun H' s => s.seq ha) ?_ ?_
    · rintro i x k H' H'' Q' Z hk s1 _ ⟨rfl, hx0⟩ qy qn
      obtain ⟨k', hk', hkv⟩ := p_at hx hx0
      rw [hk] at hk'
      cases hk'
      have hkv' := hkv.ts (.of s1)
      obtain ⟨ka, kln, rfl, hks, hkl2⟩ := id hkv'
      refine ⟨rfl, _, rfl, _, _, _, _, rfl, rfl, hks, rfl, _, rfl, _, _, rfl, rfl, _, rfl, ?_⟩
      exact ifb (fun h => ⟨_, rfl, qy h _ _ (Same.refl _) hkv'⟩) (fun h => qn h _ (Same.refl _))
    · intro ys H' s1 hC' hys
      obtain ⟨k0, hk0, h1, _⟩ := hB.cov c0 hc0
      have hne : (ks.filter fun c => decide (c.1 ≤ (R : Int))).getLast? ≠ none := fun z => by
        rw [List.getLast?_eq_none_iff] at z
        have : k0 ∈ ks.filter fun c => decide (c.1 ≤ (R : Int)) := List.mem_filter.mpr ⟨hk0, decide_eq_true (Int.le_trans h1 hr0)⟩
        rw [z] at this; cases this
      obtain ⟨k, hk⟩ := Option.ne_none_iff_exists'.mp hne
      have hyl := p_len hys
      obtain ⟨ys0, y, rfl, hy⟩ := p_last hys hk
      have hfl := List.length_filter_le (fun c : Tri => decide (c.1 ≤ (R : Int))) ks
      exact ⟨_, rfl, C, _, _, _, rfl, rfl, SqL.of hC', at_last (by rw [List.length_append] at hyl; omega), q y k H' s1 hy (hB.least hk)⟩

theorem ok_fewest_octets (T : Txt K mg) : FnOk P w K mg base CX0 9 T.f_fewest_octets T.d_fewest_octets ["fixed", "entries", "fields", "lowest"] (sp_fewest K) := by
  refine T.F_fewest_octets.ok sc_fewest_octets (fun vs H Q E h => ?_) (fun cdv A outer s H vs Q E hr h => ?_)
  · obtain ⟨t, D, u, F, es, xs, fs, lo, rfl, _⟩ := h
    rfl
  · obtain ⟨t, D, u, F, es, xs, fs, lo, rfl, hT, ok, hu, hfs, okf, hf16, q⟩ := h
    refine ⟨_, (pss_cons (ps_set (i := 4) sc_fewest_octets.nd rfl (Or.inl rfl) (pe_op op_cat (pe_lst (pa_cons pe_int pa_nil)) (pe_lc (own := [("number", 5)]) (g := (gName 5)) (tt := tYes)  rfl sc_fewest_octets.nd (pi_list (pe_callB (call_sortedDI rfl) rfl T.z_sorted boot_sorted (pa_cons (pv 1) pa_nil))) (blkOk_by (own := [("number", 5)]) (N := ["fixed", "entries", "fields", "lowest", "requireds", "number", "rows", "lengths", "required", "base", "field", "head", "row"]) (sc := defScope s_fewest_octets) (by decide +kernel)) (fun _ _ _ _ _ => (pg_name (i := 5) sc_fewest_octets.nd rfl (Or.inl rfl))) (fun _ _ _ _ _ => pts_nil) (fun _ _ _ _ _ => (pe_op op_add (pv 5) pe_int)))))
      (pss_cons (ps_set (i := 6) sc_fewest_octets.nd rfl (Or.inl rfl) pe_dnewK)
      (pss_cons (ps_set (i := 7) sc_fewest_octets.nd rfl (Or.inl rfl) pe_dnewT)
      (pss_cons (ps_for PassesOwn.never rfl (pi_list (pv 4)) (pg_name (i := 8) sc_fewest_octets.nd rfl (Or.inr rfl))
        (pss_one (ps_for PassesOwn.never rfl (pi_range2 rfl T.z_range (pa_cons (pe_callB (call_min2 rfl) rfl T.z_min boot_min (pa_cons (pv 3) (pa_cons (pv 8) pa_nil))) (pa_cons (pe_op op_add (pv 8) pe_int) pa_nil))) (pg_name (i := 9) sc_fewest_octets.nd rfl (Or.inr rfl))
        (Evl.pss_cut (ps_if (pt_cmp (pc_dnotin (hu_of hr) (pv 9) (pv 6))) (pss_one (ps_dput (hu_of hr) (pv 6) (pv 9) (pe_lc (own := [("field", 10)]) (g := (gName 10)) (tt := tYes)  rfl sc_fewest_octets.nd (pi_tup (pv 2)) (blkOk_by (own := [("field", 10)]) (N := ["fixed", "entries", "fields", "lowest", "requireds", "number", "rows", "lengths", "required", "base", "field", "head", "row"]) (sc := defScope s_fewest_octets) (by decide +kernel)) (fun _ _ _ _ _ => (pg_name (i := 10) sc_fewest_octets.nd rfl (Or.inl rfl))) (fun _ _ _ _ _ => pts_nil) (fun _ _ _ _ _ => (pe_call (ok_best_choices T) (hr.mono (by decide)) rfl T.g_best_choices T.F_best_choices.kp T.b_best_choices .nil pass0 (pa_cons (pv 0) (pa_cons (pv 1) (pa_cons (pv 10) (pa_cons (pv 9) pa_nil))))))) rfl)) pss_nil)
      (pss_cons (ps_set (i := 11) sc_fewest_octets.nd rfl (Or.inl rfl) (pe_op op_add (pe_callB call_len rfl T.z_len boot_len (pa_cons (pe_call (ok_number_octets T) (hr.mono (by decide)) rfl T.g_number_octets T.F_number_octets.kp T.b_number_octets .nil pass0 (pa_cons (pv 8) (pa_cons pe_int (pa_cons pe_int pa_nil)))) pa_nil)) (pe_callB call_len rfl T.z_len boot_len (pa_cons (pe_call (ok_number_octets T) (hr.mono (by decide)) rfl T.g_number_octets T.F_number_octets.kp T.b_number_octets .nil pass0 (pa_cons (pe_op op_sub (pv 8) (pv 9)) (pa_cons pe_int (pa_cons pe_int pa_nil)))) pa_nil))))
      (pss_one (ps_dput (hu_of hr) (pv 7) (pe_tup (pa_cons (pv 8) (pa_cons (pv 9) pa_nil))) (pe_op op_add (pv 11) (pe_callB (cr_sum rfl) rfl T.z_sum boot_sum (pa_cons (pe_lc (own := [("row", 12)]) (g := (gName 12)) (tt := tYes)  rfl sc_fewest_octets.nd (pi_list (pe_dget (hu_of hr) (pv 6) (pv 9) (fun _ _ => rfl))) (blkOk_by (own := [("row", 12)]) (N := ["fixed", "entries", "fields", "lowest", "requireds", "number", "rows", "lengths", "required", "base", "field", "head", "row"]) (sc := defScope s_fewest_octets) (by decide +kernel)) (fun _ _ _ _ _ => (pg_name (i := 12) sc_fewest_octets.nd rfl (Or.inl rfl))) (fun _ _ _ _ _ => pts_nil) (fun _ _ _ _ _ => (pe_ix (ixK (K := K) (r := rIxT) ix_tup) (pe_call (ok_best_choice T) (hr.mono (by decide)) rfl T.g_best_choice T.F_best_choice.kp T.b_best_choice .nil pass0 (pa_cons (pv 12) (pa_cons (pv 8) pa_nil))) pe_int (fun _ _ => rfl)))) pa_nil))) rfl)))))))
      (pss_one (ps_ret (pv 7))))))), ?_⟩
    obtain ⟨_, kvs0, hD, hp0⟩ := id hT
    have hkl := p_len hp0
    have hel := ok.el
    refine ⟨by show 1 ≤ sizeLine; decide, fun l0 hl0 => ?_⟩
    have s1 := Same.new (o := .lst [.int 0]) hl0
    have g0 : upd H l0 (.lst [.int 0]) l0 = some (.lst [.int 0]) := upd_same
    generalize upd H l0 (.lst [.int 0]) = H1 at s1 g0 ⊢
    refine ⟨_, rfl, D, kvs0, _, rfl, .inl (s1 _ _ hD), keys_inl hp0, by rw [List.length_map]; omega, fun ys pL perm sorted hpL => ?_⟩
    have eys := skeys_of perm sorted
    subst eys
    have s2 := Same.new (o := .lst (((skeys es).map fun (n : Nat) => (n : Int)).map V.int)) hpL
    have g2 : upd H1 pL (.lst (((skeys es).map fun (n : Nat) => (n : Int)).map V.int)) pL = some (.lst (((skeys es).map fun (n : Nat) => (n : Int)).map V.int)) := upd_same
    generalize upd H1 pL (.lst (((skeys es).map fun (n : Nat) => (n : Int)).map V.int)) = H2 at s2 g2 ⊢
    have hsl : (skeys es).length = es.length := by rw [(skeys_perm es).length_eq, List.length_map]
    refine ⟨pL, rfl, ⟨_, SqL.of g2⟩, fun C hC => ?_⟩
    refine lc_map walk_list (fun i => V.int (((skeys es).getD i 0 + 1 : Nat) : Int)) (by rw [List.length_map, List.length_map]; omega) hC (fun H' s => SqL.of (s _ _ g2)) ?_ ?_
    · rintro i x H' H'' Q' Z hi s' ⟨rfl, hx⟩ q'
      refine ⟨rfl, yesI ?_⟩
      rw [List.map_map, List.getElem?_map] at hx
      obtain ⟨n, hn, rfl⟩ := Option.map_eq_some_iff.mp hx
      refine ⟨_, rfl, _, _, rfl, rfl, ?_⟩
      have := q' H'' (Same.refl _)
      rw [getD_of 0 hn] at this
      exact this
    intro H3 s3 hC3
    rw [List.length_map, List.length_map, range_map (skeys es) (fun n => V.int ((n + 1 : Nat) : Int)) 0] at hC3
    refine ⟨l0, C, _, _, rfl, rfl, s3 _ _ (s2 _ _ g0), hC3, by rw [List.length_map, sizeLine_eq]; show 1 + _ ≤ _; omega, fun RQ hRQ => ?_⟩
    have s4 := Same.new (o := .lst ([V.int 0] ++ (skeys es).map fun n => V.int ((n + 1 : Nat) : Int))) hRQ
    have g4 : upd H3 RQ (.lst ([V.int 0] ++ (skeys es).map fun n => V.int ((n + 1 : Nat) : Int))) RQ = some (.lst ((reqsL es).map fun (n : Nat) => V.int (n : Int))) := by
      rw [upd_same]
      show some (HO.lst (V.int 0 :: (skeys es).map fun n => V.int ((n + 1 : Nat) : Int))) = some (HO.lst (V.int ((0 : Nat) : Int) :: ((skeys es).map (· + 1)).map fun (n : Nat) => V.int (n : Int)))
      rw [List.map_map]
      rfl
    generalize upd H3 RQ (.lst ([V.int 0] ++ (skeys es).map fun n => V.int ((n + 1 : Nat) : Int))) = H4 at s4 g4 ⊢
    have s14 := ((s1.trans s2).trans s3).trans s4
    clear g0 g2 hC3
    intro RW hRW
    have s5 := Same.new (o := .dK []) hRW
    have gR5 : upd H4 RW (.dK []) RW = some (.dK []) := upd_same
    generalize upd H4 RW (.dK []) = H5 at s5 gR5 ⊢
    intro LG hLG
    have s6 := Same.new (o := .dT []) hLG
    have gL6 : upd H5 LG (.dT []) LG = some (.dT []) := upd_same
    have nRL : RW ≠ LG := fun z => by rw [z, hLG] at gR5; cases gR5
    have gR6 := s6 _ _ gR5
    have g6 := s6 _ _ (s5 _ _ g4)
    have sA := (s14.trans s5).trans s6
    have fRW := s14.free hRW
    have fLG := (s14.trans s5).free hLG
    generalize upd H5 LG (.dT []) = H6 at s6 gL6 gR6 g6 sA ⊢
    clear s1 s2 s3 s4 s5 s6 gR5 g4 hRQ hC hpL hl0 s14
    have rs9 := reqs_le ok
    have rsn := reqs_nd ok.nd
    have rsl : (reqsL es).length = es.length + 1 := by show (List.map _ _).length + 1 = _; rw [List.length_map, hsl]
    have nQR : RQ ≠ RW := fun z => by rw [z, gR6] at g6; cases g6
    have nQL : RQ ≠ LG := fun z => by rw [z, gL6] at g6; cases g6
    have b2 : ∀ {H' : Hp}, But2 RW LG H6 H' → Same H H' := fun b c o e => b c o (fun z => by rw [z, fRW] at e; cases e) (fun z => by rw [z, fLG] at e; cases e) (sA _ _ e)
    refine ⟨_, rfl, RQ, rfl, ⟨_, SqL.of g6⟩, ?_⟩
    refine for_list (K := K) (a := RQ) (xs := (reqsL es).map fun (n : Nat) => V.int (n : Int)) (fun i σ H' => ∃ (v5 v8 v9 v10 v11 v12 : Option V) (kvs : List (Key × V)), σ = [some (.ref t), some (.ref D), some (.ref u), some (.int (lo : Nat)), some (.ref RQ), v5, some (.ref RW), some (.ref LG), v8, v9, v10, v11, v12] ∧ But2 RW LG H6 H' ∧ H' RW = some (.dK kvs) ∧ RowsV K F es fs kvs H' ∧ kvs.length ≤ (keysL ((reqsL es).take i) lo).length ∧ H' LG = some (.dT ((keysL ((reqsL es).take i) lo).map (lenE F es fs))))
      ⟨_, _, _, _, _, _, _, rfl, fun _ _ _ _ z => z, gR6, fun k v m => (nomatch m), Nat.le_refl _, gL6⟩ (fun i σ H' _ ⟨_, _, _, _, _, _, _, _, b, _⟩ => SqL.of (b _ _ nQR nQL g6)) ?_ ?_
    · rintro i x σ H7 hx ⟨v5, v8, v9, v10, v11, v12, kvs, rfl, b7, gR7, rows7, kl7, gL7⟩
      rw [List.getElem?_map] at hx
      obtain ⟨R, hR, rfl⟩ := Option.map_eq_some_iff.mp hx
      have hR9 := rs9 R (List.mem_of_getElem? hR)
      have hRd : ∀ p ∈ keysL ((reqsL es).take i) lo, p.1 ≠ R := fun p hp z => by
        have h1 := (keys_in.mp hp).1
        rw [z] at h1
        obtain ⟨j, hj⟩ := List.getElem?_of_mem h1
        have hji : j < i := by
          have := (List.getElem?_eq_some_iff.mp hj).1
          have := List.length_take_le i (reqsL es)
          omega
        rw [List.getElem?_take_of_lt hji] at hj
        have h2 := (List.getElem?_eq_some_iff.mp hj)
        have h3 := (List.getElem?_eq_some_iff.mp hR)
        obtain ⟨l1, e1⟩ := h2
        obtain ⟨l2, e2⟩ := h3
        have := (List.getElem_inj (h₀ := l1) (h₁ := l2) rsn).mp (e1.trans e2.symm)
        omega
      have est : keysL ((reqsL es).take (i + 1)) lo = keysL ((reqsL es).take i) lo ++ rowK lo R := by
        rw [List.take_add_one, hR]
        unfold keysL
        rw [List.flatMap_append]
        show _ ++ List.flatMap (rowK lo) [R] = _
        rw [List.flatMap_cons, List.flatMap_nil, List.append_nil]
      have klb := keys_len ((reqsL es).take i) lo fun r m => rs9 r (List.mem_of_mem_take m)
      have tlb := List.length_take_le' i (reqsL es)
      generalize hdone : keysL ((reqsL es).take i) lo = done at hRd est klb kl7 gL7
      have emin : (if ((R : Nat) : Int) < ((lo : Nat) : Int) then ((R : Nat) : Int) else ((lo : Nat) : Int)) = ((min lo R : Nat) : Int) := by
        by_cases z : R < lo
        · rw [if_pos (by omega)]; omega
        · rw [if_neg (by omega)]; omega
      refine ⟨_, rfl, _, rfl, _, _, rfl, _, rfl, _, _, rfl, rfl, _, _, rfl, ?_⟩
      rw [emin, show (((R : Nat) : Int) + 1 - ((min lo R : Nat) : Int)).toNat = R + 1 - min lo R by omega]
      refine ⟨⟨by omega, by omega, by omega, by omega⟩, ?_⟩
      have npre : ∀ j, j ≤ R + 1 - min lo R → ((List.range j).map fun j => (R, min lo R + j)).length = j := fun j _ => by rw [List.length_map, List.length_range]
      refine for_range (lo := ((min lo R : Nat) : Int)) (n := R + 1 - min lo R) (fun j σ H' => ∃ (v5 v9 v10 v11 v12 : Option V) (kvs : List (Key × V)), σ = [some (.ref t), some (.ref D), some (.ref u), some (.int (lo : Nat)), some (.ref RQ), v5, some (.ref RW), some (.ref LG), some (.int (R : Nat)), v9, v10, v11, v12] ∧ But2 RW LG H6 H' ∧ H' RW = some (.dK kvs) ∧ RowsV K F es fs kvs H' ∧ kvs.length ≤ done.length + j ∧ H' LG = some (.dT ((done ++ (List.range j).map fun j => (R, min lo R + j)).map (lenE F es fs))))
        ⟨_, _, _, _, _, kvs, rfl, b7, gR7, rows7, by omega, by rw [List.range_zero, List.map_nil, List.append_nil]; exact gL7⟩ ?_ ?_
      · rintro j σ H8 hj ⟨w5, v9, v10, v11, v12, kv8, rfl, b8, gR8, rows8, kl8, gL8⟩
        rw [show (((min lo R : Nat) : Int) + (j : Nat)) = ((min lo R + j : Nat) : Int) by omega]
        have hbR : min lo R + j ≤ R := by omega
        generalize hbb : min lo R + j = bb at hbR ⊢
        refine ⟨fun σ' H' => ∃ (v5 v10 v11 v12 : Option V) (kvs : List (Key × V)) (v : V), σ' = [some (.ref t), some (.ref D), some (.ref u), some (.int (lo : Nat)), some (.ref RQ), v5, some (.ref RW), some (.ref LG), some (.int (R : Nat)), some (.int (bb : Nat)), v10, v11, v12] ∧ But2 RW LG H6 H' ∧ H' RW = some (.dK kvs) ∧ RowsV K F es fs kvs H' ∧ kvs.length ≤ done.length + j + 1 ∧ H' LG = some (.dT ((done ++ (List.range j).map fun j => (R, min lo R + j)).map (lenE F es fs))) ∧ valV kvs (nkey bb) = some v, ?_, ?_⟩
        · refine ⟨_, rfl, _, rfl, RW, _, rfl, .inl ⟨kv8, nkey bb, .inl gR8, rfl, rfl⟩, ?_⟩
          refine ⟨_, rfl, ifb (fun h => ?_) (fun h => ?_)⟩
          · have hno : valV kv8 (nkey bb) = none := by
              cases e : valV kv8 (nkey bb) with
              | none => rfl
              | some v => rw [e] at h; cases h
            have hu8 := (b2 b8).tup hu
            refine ⟨_, rfl, u, rfl, ⟨xs, hu8⟩, fun C hC => ?_⟩
            refine lc_relB (R := fun v f H => RowD K F es C bb v f H) fs (fun _ _ _ _ hD b z => z.bt hD b) walk_tup (p_len hfs) (by omega) hC (fun H' s => s.tup hu8) ?_ ?_
            · rintro k x f H' H'' Q' Z hk s' hCn ⟨rfl, hx⟩ q'
              obtain ⟨f', hf', hfv⟩ := p_at hfs hx
              rw [hk] at hf'
              cases hf'
              have sH := (b2 b8).trans s'
              refine ⟨rfl, yesI ⟨_, rfl, _, rfl, _, rfl, _, rfl, t, D, F, es, x, f, bb, rfl, hT.same sH, ok, hfv.ts (.of sH), okf f (List.mem_of_getElem? hk), by omega, fun a ys ks H4 s4 ha ga hys hbest hkl => ?_⟩⟩
              exact q' _ H4 s4 ⟨⟨a, ys, ks, rfl, ga, hys, hbest, hkl⟩, fun z => hCn (by rw [← V.ref.inj z]; exact ha)⟩
            · intro ys H9 s9 hC9 hys
              have gR9 := s9 _ _ gR8
              have gL9 := s9 _ _ gL8
              refine ⟨_, rfl, _, rfl, RW, _, rfl, .inl ⟨kv8, nkey bb, gR9, rfl, by rw [sizeLine_eq]; omega, rfl⟩, ?_⟩
              have bU : But2 RW LG H9 (upd H9 RW (.dK (putK kv8 (nkey bb) (.ref C)))) := fun c o n1 n2 e => by rw [upd_ne n1]; exact e
              have b9 : But2 RW LG H6 (upd H9 RW (.dK (putK kv8 (nkey bb) (.ref C)))) := fun c o n1 n2 e => bU c o n1 n2 (s9 _ _ (b8 c o n1 n2 e))
              have rows9 : RowsV K F es fs kv8 H9 := rows8.but2 gR8 gL8 fun c o _ _ e => s9 c o e
              have rowsA : RowsV K F es fs (putK kv8 (nkey bb) (.ref C)) H9 := by
                rw [putK_new _ hno]
                intro k v m
                rcases List.mem_append.mp m with m | m
                · exact rows9 k v m
                · cases List.mem_singleton.mp m
                  exact ⟨bb, C, ys, by omega, rfl, rfl, hC9, pmap (fun _ _ z => z.1) hys⟩
              refine ⟨_, _, _, _, _, .ref C, rfl, b9, upd_same, rowsA.but2 gR9 gL9 bU, ?_, by rw [upd_ne (Ne.symm nRL)]; exact gL9, by rw [valV_put, if_pos rfl]⟩
              rw [putK_new _ hno, List.length_append]
              simp only [List.length_singleton]
              omega
          · obtain ⟨v, hv⟩ : ∃ v, valV kv8 (nkey bb) = some v := by
              cases e : valV kv8 (nkey bb) with
              | none => rw [e] at h; cases h
              | some v => exact ⟨v, rfl⟩
            exact ⟨_, _, _, _, kv8, v, rfl, b8, gR8, rows8, by omega, gL8, hv⟩
        · rintro σ' H9 ⟨x5, v10, v11, v12, kv9, v, rfl, b9, gR9, rows9, kl9, gL9, hv⟩
          have mk8 : MarkOk 8 0 := ⟨by decide, by decide, by decide, by decide +kernel⟩
          refine ⟨_, rfl, R, 8, 0, rfl, hR9, mk8, fun p1 H10 hp1 s10 g10 => ⟨_, _, rfl, .inl ⟨_, SqL.of g10, rfl⟩, ?_⟩⟩
          rw [List.length_map]
          refine ⟨_, rfl, _, rfl, _, _, rfl, rfl, R - bb, 8, 0, by show [V.int (((R : Nat) : Int) - ((bb : Nat) : Int)), V.int 8, V.int 0] = _; rw [show ((R : Nat) : Int) - ((bb : Nat) : Int) = ((R - bb : Nat) : Int) by omega]; rfl, by omega, mk8, fun p2 H11 hp2 s11 g11 => ⟨_, _, rfl, .inl ⟨_, SqL.of g11, rfl⟩, ?_⟩⟩
          rw [List.length_map]
          refine ⟨_, _, rfl, rfl, ?_⟩
          have s911 := s10.trans s11
          have gR11 := s911 _ _ gR9
          have gL11 := s911 _ _ gL9
          have rows11 : RowsV K F es fs kv9 H11 := rows9.but2 gR9 gL9 fun c o _ _ e => s911 c o e
          have b11 : But2 RW LG H6 H11 := fun c o n1 n2 e => s911 _ _ (b9 c o n1 n2 e)
          clear s10 s11 g10 g11 hp1 hp2 rows9
          obtain ⟨b', ra, rys, hb9', hbk, rfl, gra, hrys⟩ := rows11 _ _ (valV_mem hv)
          obtain rfl : bb = b' := nkey_inj hbk
          refine ⟨_, rfl, _, rfl, _, rfl, RW, .ref ra, rfl, .inl ⟨kv9, nkey bb, .inl gR11, rfl, hv.symm⟩, ra, rfl, ⟨rys, SqL.of gra⟩, fun C hC => ?_⟩
          refine lc_map walk_list (fun i => V.int ((mn F es (fs.getD i fd00) bb R : Nat) : Int)) (by have := p_len hrys; omega) hC (fun H' s => SqL.of (s _ _ gra)) ?_ ?_
          · rintro k x H' H'' Q' Z hk s' ⟨rfl, hx⟩ q'
            obtain ⟨f, hf, hrow⟩ := p_at hrys hx
            obtain ⟨ca, cys, ks, rfl, gca, htr, hbest, hkl⟩ := hrow.same s'
            refine ⟨rfl, yesI ⟨_, rfl, _, rfl, ca, cys, ks, _, R, rfl, SqL.of gca, htr, hbest, by rw [List.length_map]; have := lines_len ok f; omega, out_in F es f bb R, by omega, fun y ky H4 s4 hy hleast => ?_⟩⟩
            obtain ⟨ya, yl, rfl, hys, _⟩ := hy
            refine ⟨_, _, _, _, rfl, rfl, hys, rfl, ?_⟩
            have := q' H4 s4
            rw [getD_of fd00 hf, ← mn_eq hleast] at this
            exact this
          · intro H12 s12 hC12
            have hlen := p_len hrys
            refine ⟨C, (List.range rys.length).map fun i => ((mn F es (fs.getD i fd00) bb R : Nat) : Int), rfl, SqL.of (by rw [hC12, List.map_map]; rfl), ?_⟩
            rw [hlen, range_map fs (fun f => ((mn F es f bb R : Nat) : Int)) fd00, sum_mn fs fun f => mn F es f bb R]
            refine ⟨_, _, rfl, rfl, _, rfl, _, rfl, _, rfl, by show 2 ≤ sizeLine; decide, fun kp hkp => ?_⟩
            have s13 := Same.new (o := .tup [.int (R : Nat), .int (bb : Nat)]) hkp
            have gkp : upd H12 kp (.tup [.int (R : Nat), .int (bb : Nat)]) kp = some (.tup ((lenK (R, bb)).map kV)) := upd_same
            generalize upd H12 kp (.tup [.int (R : Nat), .int (bb : Nat)]) = H13 at s13 gkp ⊢
            have gL13 := s13 _ _ (s12 _ _ gL11)
            have gR13 := s13 _ _ (s12 _ _ gR11)
            have ll : ((done ++ (List.range j).map fun j => (R, min lo R + j)).map (lenE F es fs)).length < sizeLine := by
              rw [List.length_map, List.length_append, List.length_map, List.length_range, sizeLine_eq]; omega
            refine ⟨LG, _, rfl, .inr ⟨_, lenK (R, bb), kp, gL13, rfl, gkp, ll, rfl⟩, ?_⟩
            have hno : valV ((done ++ (List.range j).map fun j => (R, min lo R + j)).map (lenE F es fs)) (lenK (R, bb)) = none := valV_no fun e m z => by
              obtain ⟨p, hp, rfl⟩ := List.mem_map.mp m
              have ep : p = (R, bb) := lenK_inj z
              subst ep
              rcases List.mem_append.mp hp with hp | hp
              · exact hRd _ hp rfl
              · obtain ⟨j', hj', ej⟩ := List.mem_map.mp hp
                have := List.mem_range.mp hj'
                have := (Prod.mk.inj ej).2
                omega
            rw [putK_new _ hno]
            have eev : (fun i j : Int => V.int (i + j)) ((((numOct R 8 0).length : Nat) : Int) + (((numOct (R - bb) 8 0).length : Nat) : Int)) ((((fs.map fun f => mn F es f bb R).sum : Nat)) : Int) = V.int (lenN F es fs R bb : Nat) := by
              show V.int _ = V.int _
              unfold lenN headN
              congr 1
            rw [eev]
            have bU : But2 RW LG H13 (upd H13 LG (.dT (((done ++ (List.range j).map fun j => (R, min lo R + j)).map (lenE F es fs)) ++ [(lenK (R, bb), V.int (lenN F es fs R bb : Nat))]))) := fun c o n1 n2 e => by rw [upd_ne n2]; exact e
            have rows13 : RowsV K F es fs kv9 H13 := rows11.but2 gR11 gL11 fun c o _ _ e => s13 _ _ (s12 c o e)
            refine ⟨_, _, _, _, _, kv9, rfl, fun c o n1 n2 e => bU c o n1 n2 (s13 _ _ (s12 _ _ (b11 c o n1 n2 e))), by rw [upd_ne nRL]; exact gR13, rows13.but2 gR13 gL13 bU, by omega, ?_⟩
            rw [upd_same, List.range_succ, List.map_append, List.map_append, List.map_append, List.map_append, List.append_assoc]
            subst hbb
            rfl
      · rintro σ H8 ⟨w5, v9, v10, v11, v12, kv8, rfl, b8, gR8, rows8, kl8, gL8⟩
        refine ⟨_, _, _, _, _, _, kv8, rfl, b8, gR8, rows8, ?_, ?_⟩
        · rw [est, List.length_append]; unfold rowK; rw [List.length_map, List.length_range]; exact kl8
        · rw [est]; exact gL8
    · rintro σ H7 ⟨v5, v8, v9, v10, v11, v12, kvs, rfl, b7, gR7, rows7, kl7, gL7⟩
      rw [List.take_of_length_le (by rw [List.length_map]; exact Nat.le_refl _)] at gL7
      exact ⟨_, rfl, q LG H7 (b2 b7) fLG ⟨_, gL7, rfl⟩⟩

theorem ok_best_pair (T : Txt K mg) : FnOk P w K mg base CX0 1 T.f_best_pair T.d_best_pair ["lengths"] (sp_best_pair K) := by
  refine T.F_best_pair.ok sc_best_pair (fun vs H Q E h => ?_) (fun cdv A outer s H vs Q E hr h => ?_)
  · obtain ⟨a, F, es, fs, ps, rfl, _⟩ := h
    rfl
  · obtain ⟨a, F, es, fs, ps, rfl, ⟨kvs, ha, rfl⟩, hne, hpl, q⟩ := h
    have hu70 : (A.deeper (envOfC "best_pair" (defScope s_best_pair) s.heap.objs.size T.f_best_pair cdv)).units + 70 < cLine := by have := hr.un; omega
    refine ⟨_, (pss_one (ps_ret (pe_ix ix_tup (pe_callB (cr_minP rfl hu70) rfl T.z_min boot_min (pa_cons (pe_lock (pe_lc (own := [("pair", 1)]) (g := (gName 1)) (tt := tYes)  rfl sc_best_pair.nd (pi_keys (pv 0)) (blkOk_by (own := [("pair", 1)]) (N := ["lengths", "pair"]) (sc := defScope s_best_pair) (by decide +kernel)) (fun _ _ _ _ _ => (pg_name (i := 1) sc_best_pair.nd rfl (Or.inl rfl))) (fun _ _ _ _ _ => pts_nil) (fun _ _ _ _ _ => (pe_tup (pa_cons (pe_dget (hu_of hr) (pv 0) (pv 1) (fun _ _ => rfl)) (pa_cons (pv 1) pa_nil)))))) pa_nil)) pe_int (fun _ _ => rfl)))), ?_⟩
    refine ⟨a, .dT (ps.map (lenE F es fs)), ha, True.intro, fun od => ?_⟩
    have nfT : ¬ IsTupO (.dT (ps.map (lenE F es fs))) := fun z => by rcases z with ⟨xs, z⟩ | ⟨o, xs, z⟩ <;> cases z
    refine ⟨_, rfl, a, od, rfl, .inr ⟨_, upd_same, fun C hC => ?_⟩⟩
    have nAC : a ≠ C := fun z => by rw [← z, upd_same] at hC; cases hC
    refine lc_rel (R := fun v p H => PrI K H v (pr3 F es fs p)) (fun _ _ _ _ t z => z.ts t) ps walk_keysT (List.length_map ..) (by omega) hC (fun H' s => s _ _ upd_same) ?_ ?_
    · rintro i x p H' H'' Q' Z hp s1 _ ⟨rfl, k, v, b, hk, rfl, hb⟩ q'
      rw [List.getElem?_map, hp] at hk
      have hk' := Option.some.inj hk
      obtain ⟨rfl, rfl⟩ : lenK p = k ∧ V.int (lenN F es fs p.1 p.2 : Nat) = v := ⟨(Prod.mk.inj hk').1, (Prod.mk.inj hk').2⟩
      refine ⟨rfl, yesI ?_⟩
      refine ⟨_, rfl, _, rfl, a, _, rfl, .inr ⟨_, lenK p, b, .inr ⟨od, s1 _ _ upd_same⟩, rfl, hb, (len_val (List.mem_of_getElem? hp)).symm⟩, _, rfl, by show 2 ≤ sizeLine; decide, fun T1 hT1 => ?_⟩
      have s2 := Same.new (o := .tup [.int (lenN F es fs p.1 p.2 : Nat), .ref b]) hT1
      exact q' _ _ s2 ⟨T1, b, rfl, SqT.of upd_same, SqT.of (s2 _ _ hb)⟩
    intro ys H1 s1 hC1 hys
    have sU := unlock ha s1
    have gC : upd H1 a (.dT (ps.map (lenE F es fs))) C = some (.lst ys) := by rw [upd_ne (Ne.symm nAC)]; exact hC1
    have tU : TS H1 (upd H1 a (.dT (ps.map (lenE F es fs)))) := fun c u t e => by
      by_cases z : c = a
      · subst z; rw [s1 _ _ upd_same] at e
        have := Option.some.inj e
        subst this
        rcases t with ⟨xs, t⟩ | ⟨o, xs, t⟩ <;> cases t
      · rw [upd_ne z]; exact e
    have hys2 := pmap (fun _ _ z => PrI.ts z tU) hys
    refine ⟨s1 _ _ upd_same, ?_⟩
    generalize upd H1 a (.dT (ps.map (lenE F es fs))) = H2 at sU gC hys2 ⊢
    have hys3 : Paired (PrI K H2) ys (ps.map (pr3 F es fs)) := p_mapR hys2
    refine ⟨C, ys, _, rfl, SqL.of gC, hys3, fun z => hne (List.map_eq_nil_iff.mp z), fun x t hx hm hle => ?_⟩
    obtain ⟨p, hp, rfl⟩ := List.mem_map.mp hm
    obtain ⟨xa, xb, rfl, hx1, hx2⟩ := hx
    refine ⟨_, _, _, _, rfl, rfl, hx1, rfl, ?_⟩
    exact q xb p H2 sU hx2 ⟨hp, fun y hy => hle _ (List.mem_map.mpr ⟨y, hy, rfl⟩)⟩
theorem ok_best_block (T : Txt K mg) : FnOk P w K mg base CX0 9 T.f_best_block T.d_best_block ["fixed", "entries", "fields", "required", "base"] (sp_best_block K) := by
  refine T.F_best_block.ok sc_best_block (fun vs H Q E h => ?_) (fun cdv A outer s H vs Q E hr h => ?_)
  · obtain ⟨t, D, u, F, es, xs, fs, R, b, rfl, _⟩ := h
    rfl
  · obtain ⟨t, D, u, F, es, xs, fs, R, b, rfl, hT, ok, hu, hfs, okf, hf16, hR, hb, q⟩ := h
    refine ⟨_, (pss_cons (ps_setLc (i := 5) (own := [("field", 6)]) (g := (gName 6)) (tt := tYes)  rfl sc_best_block.nd rfl rfl (sw_true rfl rfl rfl (by decide +kernel)) (pi_tup (pv 2)) (blkOk_by (own := [("field", 6)]) (N := ["fixed", "entries", "fields", "required", "base", "rows", "field", "row"]) (sc := defScope s_best_block) (by decide +kernel)) (fun _ _ _ _ _ => (pg_name (i := 6) sc_best_block.nd rfl (Or.inl rfl))) (fun _ _ _ _ _ => pts_nil) (fun _ _ _ _ _ => (pe_call (ok_best_choices T) (hr.mono (by decide)) rfl T.g_best_choices T.F_best_choices.kp T.b_best_choices .nil pass0 (pa_cons (pv 0) (pa_cons (pv 1) (pa_cons (pv 6) (pa_cons (pv 4) pa_nil)))))))
      (pss_one (ps_ret (pe_tup (pa_cons (pv 3) (pa_cons (pv 4) (pa_cons (pe_callTy call_tuple_of rfl T.z_tuple boot_tuple (pa_cons (pe_lc (own := [("row", 7)]) (g := (gName 7)) (tt := tYes)  rfl sc_best_block.nd (pi_list (pv 5)) (blkOk_by (own := [("row", 7)]) (N := ["fixed", "entries", "fields", "required", "base", "rows", "field", "row"]) (sc := defScope s_best_block) (by decide +kernel)) (fun _ _ _ _ _ => (pg_name (i := 7) sc_best_block.nd rfl (Or.inl rfl))) (fun _ _ _ _ _ => pts_nil) (fun _ _ _ _ _ => (pe_ix (ixK (K := K) (r := rIxT) ix_tup) (pe_call (ok_best_choice T) (hr.mono (by decide)) rfl T.g_best_choice T.F_best_choice.kp T.b_best_choice .nil pass0 (pa_cons (pv 7) (pa_cons (pv 3) pa_nil))) pe_int (fun _ _ => rfl)))) pa_nil)) pa_nil))))))), ?_⟩
    refine ⟨_, rfl, u, rfl, ⟨xs, hu⟩, fun C hC => ?_⟩
    refine lc_relB (R := fun v f H => RowD K F es C b v f H) fs (fun _ _ _ _ hD b z => z.bt hD b) walk_tup (p_len hfs) (by omega) hC (fun H' s => s.tup hu) ?_ ?_
    · rintro k x f H' H'' Q' Z hk s' hCn ⟨rfl, hx⟩ q'
      obtain ⟨f', hf', hfv⟩ := p_at hfs hx
      rw [hk] at hf'
      cases hf'
      refine ⟨rfl, yesI ⟨_, rfl, _, rfl, _, rfl, _, rfl, t, D, F, es, x, f, b, rfl, hT.same s', ok, hfv.ts (.of s'), okf f (List.mem_of_getElem? hk), by omega, fun a ys ks H4 s4 ha ga hys hbest hkl => ?_⟩⟩
      exact q' _ H4 s4 ⟨⟨a, ys, ks, rfl, ga, hys, hbest, hkl⟩, fun z => hCn (by rw [← V.ref.inj z]; exact ha)⟩
    intro ys H1 s1 hC1 hys
    have hys1 : Paired (fun v f => RowV K F es b v f H1) ys fs := pmap (fun _ _ z => z.1) hys
    refine ⟨_, rfl, _, rfl, _, rfl, C, rfl, ⟨ys, SqL.of hC1⟩, fun C2 hC2 => ?_⟩
    refine lc_rel (R := fun v f H => ∃ k : Tri, LnV K H v k.2.2 ∧ Least (trisOf F es f b) R k) (fun _ _ _ _ t z => let ⟨k, h1, h2⟩ := z; ⟨k, h1.ts t, h2⟩) fs walk_list (p_len hys1) (by omega) hC2 (fun H' s => SqL.of (s _ _ hC1)) ?_ ?_
    · rintro k x f H' H'' Q' Z hk s' _ ⟨rfl, hx⟩ q'
      obtain ⟨f', hf', hrow⟩ := p_at hys1 hx
      rw [hk] at hf'
      cases hf'
      obtain ⟨ca, cys, ks, rfl, gca, htr, hbest, hkl⟩ := hrow.same s'
      refine ⟨rfl, yesI ⟨_, rfl, _, rfl, ca, cys, ks, _, R, rfl, SqL.of gca, htr, hbest, by rw [List.length_map]; have := lines_len ok f; omega, out_in F es f b R, by omega, fun y ky H4 s4 hy hleast => ?_⟩⟩
      obtain ⟨ya, yl, rfl, hys4, hyl⟩ := hy
      exact ⟨_, _, _, _, rfl, rfl, hys4, rfl, q' _ H4 s4 ⟨ky, hyl, hleast⟩⟩
    intro zs H2 s2 hC3 hzs
    obtain ⟨ks, hk1, hk2⟩ := p_choose hzs
    have hSay := sayB_of ok hk2 okf
    refine ⟨C2, zs, rfl, .inl ⟨SqL.of hC3, fun p hp => ?_⟩⟩
    have s3 := Same.new (o := .tup zs) hp
    have e3 : SqT K (upd H2 p (.tup zs)) p zs := SqT.of upd_same
    generalize upd H2 p (.tup zs) = H3 at s3 e3 ⊢
    refine ⟨by show 3 ≤ sizeLine; decide, fun p4 hp4 => ?_⟩
    have s4 := Same.new (o := .tup [.int (R : Nat), .int (b : Nat), .ref p]) hp4
    refine q _ _ _ (((s1.trans s2).trans s3).trans s4) ⟨p4, p, zs, rfl, SqT.of upd_same, s4.tup e3, lns_of_tris (p_mapR ?_)⟩ hSay
    exact pmap (fun _ _ z => z.ts (.of (s3.trans s4))) hk1
theorem ok_checked_lengths (T : Txt K mg) : FnOk P w K mg base CX0 10 T.f_checked_lengths T.d_checked_lengths ["setting", "entries", "fields"] (sp_checked K) := by
  refine T.F_checked_lengths.ok sc_checked_lengths (fun vs H Q E h => ?_) (fun cdv A outer s H vs Q E hr h => ?_)
  · obtain ⟨sv, D, u, F, r, w, es, xs, fs, rfl, _⟩ := h
    rfl
  · obtain ⟨sv, D, u, F, r, w, es, xs, fs, rfl, hS, okS, hE, okE, hu, hfs, okf, hf16, q⟩ := h
    refine ⟨_, (pss_cons (ps_expr (pe_call (ok_check_setting T) (hr.mono (by decide)) rfl T.g_check_setting T.F_check_setting.kp T.b_check_setting .nil pass0 (pa_cons (pv 0) pa_nil)))
      (pss_cons (ps_expr (pe_call (ok_check_entries T) (hr.mono (by decide)) rfl T.g_check_entries T.F_check_entries.kp T.b_check_entries .nil pass0 (pa_cons (pv 1) pa_nil)))
      (pss_cons (ps_if (pt_not (pt_val (pe_call (ok_are_fields T) (hr.mono (by decide)) rfl T.g_are_fields T.F_are_fields.kp T.b_are_fields .nil pass0 (pa_cons (pv 2) pa_nil)))) (pss_one ps_never) pss_nil)
      (pss_one (ps_ret (pe_call (ok_fewest_octets T) (hr.mono (by decide)) rfl T.g_fewest_octets T.F_fewest_octets.kp T.b_fewest_octets .nil pass0 (pa_cons (pe_ix ix_tup (pv 0) pe_int (fun _ _ => rfl)) (pa_cons (pv 1) (pa_cons (pv 2) (pa_cons pe_int pa_nil)))))))))), ?_⟩
    refine ⟨_, rfl, sv, F, r, w, rfl, hS, okS, fun H1 s1 => ?_⟩
    refine ⟨_, rfl, D, es, rfl, hE.same s1, okE, fun H2 s2 => ?_⟩
    have sA := s1.trans s2
    have hdv : Dp K H2 (.ref u) (.tuple (fs.map fdat)) := .tup (sA.tup hu) (FdsV.dp (hfs.ts (.of sA)))
    refine ⟨_, rfl, .ref u, _, rfl, .ofDp hdv, lim_fds okf (by omega), fun H3 s3 => ?_⟩
    rw [dFields_ok okf hf16]
    refine ⟨_, rfl, ifF rfl ?_⟩
    have sB := sA.trans s3
    obtain ⟨sa, ft, fx, rfl, g1, g2, g3⟩ := hS.ts (.of sB)
    refine ⟨_, rfl, _, _, _, _, rfl, rfl, g1, rfl, _, rfl, _, rfl, ft, D, u, F, es, xs, fs, 0, rfl, ⟨⟨fx, g2, g3⟩, hE.same sB⟩, shOk_of okS okE, sB.tup hu, hfs.ts (.of sB), okf, hf16, fun a H4 s4 ha hl => ?_⟩
    exact q a H4 (sB.trans s4) (sB.free ha) hl
theorem ok_shortest (T : Txt K mg) : FnOk P w K mg base CX0 11 T.f_shortest T.d_shortest ["setting", "entries", "fields"] (sp_shortest K) := by
  refine T.F_shortest.ok sc_shortest (fun vs H Q E h => ?_) (fun cdv A outer s H vs Q E hr h => ?_)
  · obtain ⟨sv, D, u, F, r, w, es, xs, fs, rfl, _⟩ := h
    rfl
  · obtain ⟨sv, D, u, F, r, w, es, xs, fs, rfl, hS, okS, hE, okE, hu, hfs, okf, hf16, q⟩ := h
    refine ⟨_, (pss_cons (ps_set (i := 3) sc_shortest.nd rfl (Or.inl rfl) (pe_call (ok_checked_lengths T) (hr.mono (by decide)) rfl T.g_checked_lengths T.F_checked_lengths.kp T.b_checked_lengths .nil pass0 (pa_cons (pv 0) (pa_cons (pv 1) (pa_cons (pv 2) pa_nil)))))
      (pss_cons (ps_asg (pe_call (ok_best_pair T) (hr.mono (by decide)) rfl T.g_best_pair T.F_best_pair.kp T.b_best_pair .nil pass0 (pa_cons (pv 3) pa_nil)) (pg_tup rfl (pgs_cons (pg_name (i := 4) sc_shortest.nd rfl (Or.inl rfl)) (pgs_cons (pg_name (i := 5) sc_shortest.nd rfl (Or.inl rfl)) pgs_nil))))
      (pss_cons (ps_set (i := 6) sc_shortest.nd rfl (Or.inl rfl) (pe_call (ok_write_block T) (hr.mono (by decide)) rfl T.g_write_block T.F_write_block.kp T.b_write_block .nil pass0 (pa_cons (pe_call (ok_best_block T) (hr.mono (by decide)) rfl T.g_best_block T.F_best_block.kp T.b_best_block .nil pass0 (pa_cons (pe_ix ix_tup (pv 0) pe_int (fun _ _ => rfl)) (pa_cons (pv 1) (pa_cons (pv 2) (pa_cons (pv 4) (pa_cons (pv 5) pa_nil)))))) pa_nil)))
      (pss_one (ps_ret (pe_tup (pa_cons (pe_dget (hu_of hr) (pv 3) (pe_tup (pa_cons (pv 4) (pa_cons (pv 5) pa_nil))) (fun _ _ => rfl)) (pa_cons (pv 6) (pa_cons (pv 3) pa_nil))))))))), ?_⟩
    have ok := shOk_of okS okE
    refine ⟨_, rfl, _, rfl, _, rfl, sv, D, u, F, r, w, es, xs, fs, rfl, hS, okS, hE, okE, hu, hfs, okf, hf16, fun a H1 s1 ha hl => ?_⟩
    refine ⟨_, rfl, a, F, es, fs, allK es, rfl, hl, all_ne es, all_len ok, fun t p H2 s2 ht hbp => ?_⟩
    have hp := keys_in.mp hbp.mem
    have hR9 := reqs_le ok _ hp.1
    obtain ⟨R, b⟩ := p
    have hbR : b ≤ R := hp.2.2
    have hR9' : R ≤ 9999 := hR9
    have sA := s1.trans s2
    obtain ⟨sa, ft, fx, rfl, g1, g2, g3⟩ := hS.ts (.of sA)
    refine ⟨t, _, rfl, ht, rfl, _, _, rfl, _, _, rfl, rfl, ?_⟩
    refine ⟨_, rfl, _, _, _, _, rfl, rfl, g1, rfl, _, rfl, _, rfl, _, rfl, _, rfl, ft, D, u, F, es, xs, fs, R, b, rfl, ⟨⟨fx, g2, g3⟩, hE.same sA⟩, ok, sA.tup hu, hfs.ts (.of sA), okf, hf16, hR9', hbR, fun v ls H3 s3 hv hSay => ?_⟩
    have okB := hSay.blk hR9' hbR hf16
    refine ⟨v, _, rfl, hv, okB, fun o H4 ho s4 go => ?_⟩
    have s24 := (s2.trans s3).trans s4
    obtain ⟨kvs, hk, rfl⟩ := hl.same s24
    refine ⟨_, rfl, _, rfl, _, rfl, by show 2 ≤ sizeLine; decide, fun kp hkp => ?_⟩
    have s5 := Same.new (o := .tup [.int (R : Nat), .int (b : Nat)]) hkp
    have gkp : upd H4 kp (.tup [.int (R : Nat), .int (b : Nat)]) kp = some (.tup ((lenK (R, b)).map kV)) := upd_same
    generalize upd H4 kp (.tup [.int (R : Nat), .int (b : Nat)]) = H5 at s5 gkp ⊢
    refine ⟨a, _, rfl, .inr ⟨_, lenK (R, b), kp, .inl (s5 _ _ hk), rfl, gkp, (len_val hbp.mem).symm⟩, _, rfl, _, rfl, by show 3 ≤ sizeLine; decide, fun tp htp => ?_⟩
    have s6 := Same.new (o := .tup [.int (lenN F es fs R b : Nat), .ref o, .ref a]) htp
    have sC := ((((s1.trans s2).trans s3).trans s4).trans s5)
    refine q tp o a _ _ _ (sC.trans s6) (sC.free htp) (((s1.trans s2).trans s3).free ho) ha upd_same ((s5.trans s6) _ _ go) ⟨_, (s5.trans s6) _ _ hk, rfl⟩ ⟨⟨_, okB, rfl, hSay.said, hbp.mem⟩, hSay.octs, hbp.min, ⟨(R, b), hbp.mem, rfl⟩⟩

theorem ok_law_open (T : Txt K mg) : FnOk P w K mg base CX0 1 T.f_law_open T.d_law_open ["script"] (sp_law_open K) := by
  refine T.F_law_open.ok sc_law_open (fun vs H Q E h => ?_) (fun cdv A outer s H vs Q E hr h => ?_)
  · obtain ⟨a, ns, rfl, _⟩ := h
    rfl
  · obtain ⟨a, ns, rfl, hS, hl, q⟩ := h
    refine ⟨_, (pss_cons (ps_set (i := 1) sc_law_open.nd rfl (Or.inl rfl) (pe_callTy call_list_of rfl T.z_list boot_list (pa_cons (pe_slice sl_list (pv 0) po_none (po_some pe_int)) pa_nil)))
      (pss_cons (ps_for PassesOwn.never rfl (pi_enum rfl T.z_enumerate (pa_cons (pe_slice sl_list (pv 0) (po_some pe_int) (po_some pe_int)) pa_nil)) (pg_tup rfl (pgs_cons (pg_name (i := 2) sc_law_open.nd rfl (Or.inl rfl)) (pgs_cons (pg_name (i := 3) sc_law_open.nd rfl (Or.inl rfl)) pgs_nil)))
        (pss_one (ps_asg (pe_op op_add (pe_ix ix_list (pv 1) (pe_op op_mod (pv 2) pe_int) (fun _ _ => rfl)) (pv 3)) (pg_sub (pv 1) (pe_op op_mod (pv 2) pe_int) set_list))))
      (pss_one (ps_ret (pe_lst (pa_cons (pv 1) (pa_cons pe_int (pa_cons pe_int pa_nil)))))))), ?_⟩
    refine ⟨_, rfl, _, rfl, a, _, rfl, hS, fun p1 hp1 => ?_⟩
    refine ⟨p1, _, rfl, .inl (SqL.of upd_same), fun c hc => ?_⟩
    have s1 : Same H (upd (upd H p1 (.lst (cutV (ns.map V.int) none (some 12)))) c (.lst (cutV (ns.map V.int) none (some 12)))) := (Same.new hp1).trans (Same.new hc)
    have hcc : H c = none := (Same.new hp1).free hc
    refine ⟨_, rfl, _, rfl, _, rfl, a, _, rfl, s1.seq hS, fun p2 hp2 => ?_⟩
    have npc : c ≠ p2 := ne_of_none upd_same hp2
    have s2 := s1.trans (Same.new (o := .lst (cutV (ns.map V.int) (some 12) (some 63))) hp2)
    refine ⟨p2, _, rfl, SqL.of upd_same, ?_⟩
    generalize hH2 : upd (upd (upd H p1 (.lst (cutV (ns.map V.int) none (some 12)))) c (.lst (cutV (ns.map V.int) none (some 12)))) p2 (.lst (cutV (ns.map V.int) (some 12) (some 63))) = H2 at s2 ⊢
    have gc : H2 c = some (.lst ((ns.take 12).map V.int)) := by
      rw [← hH2, upd_ne npc, upd_same]
      have := cut_to (ns.map V.int) 12
      rw [List.map_take]
      exact congrArg (fun l => some (HO.lst l)) this
    have g2 : H2 p2 = some (.lst (cutV (ns.map V.int) (some 12) (some 63))) := by rw [← hH2, upd_same]
    have el : (cutV (ns.map V.int) (some 12) (some 63)) = ((ns.drop 12).take 51).map V.int := by
      have := cut_mid (ns.map V.int) 12 63
      rw [List.map_take, List.map_drop]
      exact this
    rw [el] at g2
    clear hH2 el
    refine for_it (walk_enum (K := K) (a := p2) (xs := ((ns.drop 12).take 51).map V.int)) (fun i σ H' => ∃ (cs : List Int) (x y : Option V), σ = [some (.ref a), some (.ref c), x, y] ∧ But c H2 H' ∧ H' c = some (.lst (cs.map V.int)) ∧ cs.length = (ns.take 12).length)
      ⟨ns.take 12, none, none, rfl, But.refl _ _, gc, rfl⟩ (fun i σ H' _ ⟨_, _, _, _, b, _⟩ => b.seq (Ne.symm npc) (SqL.of g2)) ?_ ?_
    · rintro i x σ H' H'' hi ⟨cs, v1, v2, rfl, b, hcs, hlen⟩ ⟨t, z1, z2, rfl, ht, rfl, e1, e2⟩
      cases e1
      have e3 : ∃ z : Int, z2 = .int z := by
        replace e2 : (((ns.drop 12).take 51).map V.int)[i]? = some z2 := e2
        rw [List.getElem?_map] at e2
        cases e4 : ((ns.drop 12).take 51)[i]? with
        | none => rw [e4] at e2; cases e2
        | some z => rw [e4] at e2; exact ⟨z, (Option.some.inj e2).symm⟩
      obtain ⟨z, rfl⟩ := e3
      have h12 : cs.length = 12 := by
        rw [hlen]
        rw [List.length_map, List.length_take, List.length_drop] at hi
        rw [List.length_take]
        omega
      have hm : i % 12 < cs.length := by omega
      have nct : c ≠ t := ne_of_none hcs ht
      have hcs' : upd H' t (.tup [.int (i : Nat), .int z]) c = some (.lst (cs.map V.int)) := by rw [upd_ne nct]; exact hcs
      refine ⟨t, _, rfl, SqT.of upd_same, rfl, _, _, rfl, _, _, rfl, rfl, ?_⟩
      have em : ((i : Nat) : Int) % 12 = ((i % 12 : Nat) : Int) := by omega
      have ea : atI (cs.map V.int) (((i : Nat) : Int) % 12) = some (.int cs[i % 12]) := by
        rw [em]
        exact atI_nat (by rw [List.getElem?_map, List.getElem?_eq_getElem hm]; rfl)
      refine ⟨_, rfl, _, rfl, _, _, rfl, rfl, (by show (0 : Int) < 12; decide), c, _, _, _, rfl, rfl, SqL.of hcs', ea, _, rfl, _, _, rfl, rfl, ?_⟩
      refine ⟨_, rfl, _, rfl, _, _, rfl, rfl, (by show (0 : Int) < 12; decide), c, _, _, i % 12, rfl, rfl, hcs', ?_, ?_⟩
      · show ixN (cs.map V.int).length (((i : Nat) : Int) % 12) = _
        rw [em]
        exact Evl.ixN_nat (by rw [List.length_map]; exact hm)
      · refine ⟨cs.set (i % 12) (cs[i % 12] + z), _, _, rfl, (b.trans (But.new ht)).trans But.set, ?_, by rw [List.length_set]; exact hlen⟩
        rw [upd_same, ← List.map_set]
    · rintro σ H' ⟨cs, v1, v2, rfl, b, hcs, hlen⟩
      refine ⟨_, rfl, (by show 3 ≤ sizeLine; decide), fun p hp => ?_⟩
      have s3 : Same H H' := fun u o e => b u o (ne_of_none e hcc) (s2 u o e)
      refine q p c _ (s3.free hp) (s3.put (s3.free hp)) ⟨0, 0, cs, upd_same, ?_, ne_of_none hcs hp, ?_, Nat.le_refl _⟩
      · rw [upd_ne (ne_of_none hcs hp)]; exact hcs
      · rw [hlen, List.length_take]; omega
theorem ok_law_spread (T : Txt K mg) : FnOk P w K mg base CX0 1 T.f_law_spread T.d_law_spread ["cell", "at"] sp_law_spread := by
  refine T.F_law_spread.ok sc_law_spread (fun vs H Q E h => ?_) (fun cdv A outer s H vs Q E hr h => ?_)
  · obtain ⟨c, a, rfl, _⟩ := h
    rfl
  · obtain ⟨c, a, rfl, ha, q⟩ := h
    refine ⟨_, (pss_cons (ps_if (pt_cmpR op_ge (pv 0) (pe_op op_pow pe_int pe_int) (nomark _)) (pss_one (ps_ret (pv 0))) pss_nil)
      (pss_cons (ps_set (i := 2) sc_law_spread.nd rfl (Or.inl rfl) (pe_lst (pa_cons pe_int (pa_cons pe_int (pa_cons pe_int (pa_cons pe_int (pa_cons pe_int (pa_cons pe_int (pa_cons pe_int (pa_cons pe_int pa_nil))))))))))
      (pss_cons (ps_set (i := 2) sc_law_spread.nd rfl (Or.inl rfl) (pe_op op_cat (pv 2) (pe_lst (pa_cons pe_int (pa_cons pe_int (pa_cons pe_int (pa_cons pe_int (pa_cons pe_int pa_nil))))))))
      (Evl.pss_cut (ps_set (i := 3) sc_law_spread.nd rfl (Or.inl rfl) (pe_op op_mod (pe_op op_pow (pe_op op_add (pe_op op_add (pe_op op_mul (pe_op op_mod (pv 0) pe_int) (pe_op op_add (pe_op op_mul pe_int (pv 1)) pe_int)) (pe_op op_mul (pv 1) pe_int)) pe_int) pe_int) (pe_ix ix_list (pv 2) (pe_op op_mod (pv 1) pe_int) (fun _ _ => rfl))))
      (Evl.pss_cut (ps_set (i := 4) sc_law_spread.nd rfl (Or.inl rfl) (pe_op op_mod (pe_op op_pow (pe_op op_add (pe_op op_add (pe_op op_mul (pv 3) (pe_op op_add (pv 1) pe_int)) (pe_op op_mod (pv 0) pe_int)) pe_int) pe_int) (pe_ix ix_list (pv 2) (pe_op op_mod (pe_op op_add (pv 1) pe_int) pe_int) (fun _ _ => rfl))))
      (Evl.pss_cut (ps_set (i := 5) sc_law_spread.nd rfl (Or.inl rfl) (pe_op op_mod (pe_op op_pow (pe_op op_add (pe_op op_add (pv 4) (pe_op op_mod (pv 3) pe_int)) (pv 1)) pe_int) (pe_ix ix_list (pv 2) (pe_op op_mod (pe_op op_add (pv 1) pe_int) pe_int) (fun _ _ => rfl))))
      (pss_one (ps_ret (pe_op op_add (pe_op op_mul (pe_op op_add (pe_op op_mul (pv 3) pe_int) (pv 4)) pe_int) (pv 5)))))))))), ?_⟩
    refine ⟨_, rfl, _, _, rfl, rfl, ⟨by decide, by decide, by decide⟩, _, _, rfl, rfl, _, rfl, ?_⟩
    refine ifb (fun _ => ?_) (fun _ => ?_)
    · exact ⟨_, rfl, q c H (Same.refl _)⟩
    refine ⟨by show 8 ≤ sizeLine; decide, fun p1 hp1 => ?_⟩
    refine ⟨_, rfl, by show 5 ≤ sizeLine; decide, fun p2 hp2 => ?_⟩
    have n12 : p1 ≠ p2 := ne_of_none upd_same hp2
    refine ⟨p1, p2, _, _, rfl, rfl, by rw [upd_ne n12]; exact upd_same, upd_same, by show 13 ≤ sizeLine; decide, fun p3 hp3 => ?_⟩
    have s3 : Same H _ := ((Same.new hp1).trans (Same.new hp2)).trans (Same.new (o := .lst (primes.map V.int)) hp3)
    have g3 : upd (upd (upd H p1 (.lst [.int 2147483629, .int 2147483587, .int 2147483579, .int 2147483563, .int 2147483549, .int 2147483543, .int 2147483497, .int 2147483489])) p2 (.lst [.int 2147483477, .int 2147483423, .int 2147483399, .int 2147483353, .int 2147483323])) p3 (.lst (primes.map V.int)) p3 = some (.lst (primes.map V.int)) := upd_same
    have hm1 : 0 ≤ c % 1000000007 ∧ c % 1000000007 < 1000000007 := ⟨Int.emod_nonneg _ (by decide), Int.emod_lt_of_pos _ (by decide)⟩
    have hm2 : 0 ≤ c % 65537 ∧ c % 65537 < 65537 := ⟨Int.emod_nonneg _ (by decide), Int.emod_lt_of_pos _ (by decide)⟩
    have ix : ∀ k : Nat, ∃ r : Int, atI (primes.map V.int) (((k : Nat) : Int) % 13) = some (.int r) ∧ 0 < r ∧ r < 2147483648 := fun k => primes_at (Int.emod_nonneg _ (by decide)) (Int.emod_lt_of_pos _ (by decide))
    obtain ⟨r1, i1, r1p, r1b⟩ := ix a
    obtain ⟨r2, i2, r2p, r2b⟩ := ix (a + 5)
    obtain ⟨r3, i3, r3p, r3b⟩ := ix (a + 7)
    rw [Int.natCast_add] at i2 i3
    have e18 : (10 : Int) ^ 18 = 1000000000000000000 := by decide
    have b1 := mul_bd (A := 1000000007) (B := 2069069) hm1.1 (Int.le_of_lt hm1.2) (b := 2 * (a : Int) + 69069) (by omega) (by omega)
    refine ⟨fun σ' H' => ∃ one : Int, σ' = [some (.int c), some (.int (a : Nat)), some (.ref p3), some (.int one), none, none] ∧ (0 ≤ one ∧ one < 2147483648) ∧ H' p3 = some (.lst (primes.map V.int)) ∧ Same H H', ?_, ?_⟩
    · refine ⟨_, rfl, _, _, rfl, rfl, (by show (0 : Int) < 1000000007; decide), _, rfl, _, _, rfl, rfl, .inl ⟨by decide, by decide⟩, _, _, rfl, rfl, _, _, rfl, rfl, mul64 hm1.1 (by omega),
        _, rfl, _, _, rfl, rfl, .inr ⟨by decide, by decide⟩, _, _, rfl, rfl, _, _, rfl, rfl, _, _, rfl, rfl, ⟨by decide, by decide, pow_small (by omega) (by omega)⟩,
        _, rfl, _, rfl, _, _, rfl, rfl, (by show (0 : Int) < 13; decide), p3, _, _, _, rfl, rfl, SqL.of g3, i1, _, _, rfl, rfl, r1p, ?_⟩
      exact ⟨_, rfl, ⟨Int.emod_nonneg _ (by omega), Int.lt_trans (Int.emod_lt_of_pos _ r1p) r1b⟩, g3, s3⟩
    · rintro σ' H' ⟨one, rfl, hone, g3, s3⟩
      have b2 := mul_bd (A := 2147483648) (B := 1000003) hone.1 (Int.le_of_lt hone.2) (b := (a : Int) + 3) (by omega) (by omega)
      refine ⟨fun σ' H' => ∃ two : Int, σ' = [some (.int c), some (.int (a : Nat)), some (.ref p3), some (.int one), some (.int two), none] ∧ (0 ≤ two ∧ two < 2147483648) ∧ H' p3 = some (.lst (primes.map V.int)) ∧ Same H H', ?_, ?_⟩
      · refine ⟨_, rfl, _, rfl, _, _, rfl, rfl, _, _, rfl, rfl, mul64 hone.1 (by omega), _, rfl, _, _, rfl, rfl, (by show (0 : Int) < 65537; decide), _, _, rfl, rfl, _, _, rfl, rfl, _, _, rfl, rfl, ⟨by decide, by decide, pow_small (by omega) (by omega)⟩,
          _, rfl, _, rfl, _, _, rfl, rfl, _, _, rfl, rfl, (by show (0 : Int) < 13; decide), p3, _, _, _, rfl, rfl, SqL.of g3, i2, _, _, rfl, rfl, r2p, ?_⟩
        exact ⟨_, rfl, ⟨Int.emod_nonneg _ (by omega), Int.lt_trans (Int.emod_lt_of_pos _ r2p) r2b⟩, g3, s3⟩
      · rintro σ' H' ⟨two, rfl, htwo, g3, s3⟩
        have hm3 : 0 ≤ one % 1009 ∧ one % 1009 < 1009 := ⟨Int.emod_nonneg _ (by decide), Int.emod_lt_of_pos _ (by decide)⟩
        refine ⟨fun σ' H' => ∃ three : Int, σ' = [some (.int c), some (.int (a : Nat)), some (.ref p3), some (.int one), some (.int two), some (.int three)] ∧ Same H H', ?_, ?_⟩
        · refine ⟨_, rfl, _, rfl, _, _, rfl, rfl, (by show (0 : Int) < 1009; decide), _, _, rfl, rfl, _, rfl, _, _, rfl, rfl, _, _, rfl, rfl, ⟨by decide, by decide, pow_small (by omega) (by omega)⟩,
            _, rfl, _, rfl, _, _, rfl, rfl, _, _, rfl, rfl, (by show (0 : Int) < 13; decide), p3, _, _, _, rfl, rfl, SqL.of g3, i3, _, _, rfl, rfl, r3p, ?_⟩
          exact ⟨_, rfl, s3⟩
        · rintro σ' H' ⟨three, rfl, s3⟩
          refine ⟨_, rfl, _, _, rfl, rfl, .inr ⟨by decide, by decide⟩, _, rfl, _, _, rfl, rfl, _, _, rfl, rfl, .inr ⟨by decide, by decide⟩, _, rfl, _, _, rfl, rfl, ?_⟩
          exact q _ H' s3

theorem ok_law_take (T : Txt K mg) : FnOk P w K mg base CX0 2 T.f_law_take T.d_law_take ["pen", "amount"] sp_law_take := by
  refine T.F_law_take.ok sc_law_take (fun vs H Q E h => ?_) (fun cdv A outer s H vs Q E hr h => ?_)
  · obtain ⟨p, c, n, k, rfl, _⟩ := h
    rfl
  · obtain ⟨p, c, n, k, rfl, ⟨a, acc, ns, gp, gc, ncp, hns, han⟩, hk0, hk, hn, q⟩ := h
    refine ⟨_, (Evl.pss_cut (ps_if (pt_cmpR op_lt (pe_ix ix_list (pv 0) pe_int (fun _ _ => rfl)) (pv 1) (nomark _)) (pss_cons (ps_set (i := 2) sc_law_take.nd rfl (Or.inl rfl) (pe_ix ix_list (pv 0) pe_int (fun _ _ => rfl)))
      (pss_cons (ps_set (i := 3) sc_law_take.nd rfl (Or.inl rfl) pe_int)
      (Evl.pss_cut (ps_if (pt_cmpR op_lt (pv 2) (pe_callB call_len rfl T.z_len boot_len (pa_cons (pe_ix ix_list (pv 0) pe_int (fun _ _ => rfl)) pa_nil)) (nomark _)) (pss_one (ps_set (i := 3) sc_law_take.nd rfl (Or.inl rfl) (pe_ix ix_list (pe_ix ix_list (pv 0) pe_int (fun _ _ => rfl)) (pv 2) (fun _ _ => rfl)))) (pss_one (ps_if (pt_cmpR op_gt (pe_callB call_len rfl T.z_len boot_len (pa_cons (pe_ix ix_list (pv 0) pe_int (fun _ _ => rfl)) pa_nil)) pe_int (nomark _)) (pss_one (ps_set (i := 3) sc_law_take.nd rfl (Or.inl rfl) (pe_op op_mod (pe_ix ix_list (pe_ix ix_list (pv 0) pe_int (fun _ _ => rfl)) (pe_op op_mod (pe_op op_add (pe_op op_mul (pv 2) pe_int) pe_int) (pe_callB call_len rfl T.z_len boot_len (pa_cons (pe_ix ix_list (pv 0) pe_int (fun _ _ => rfl)) pa_nil))) (fun _ _ => rfl)) (pe_op op_add (pe_op op_pow pe_int pe_int) (pv 2))))) pss_nil)))
      (pss_cons (ps_asg (pe_op op_add (pv 2) pe_int) (pg_sub (pv 0) pe_int set_list))
      (pss_one (ps_asg (pe_call (ok_law_spread T) (hr.mono (by decide)) rfl T.g_law_spread T.F_law_spread.kp T.b_law_spread .nil pass0 (pa_cons (pv 3) (pa_cons (pv 2) pa_nil))) (pg_sub (pv 0) pe_int set_list))))))) pss_nil)
      (pss_cons (ps_set (i := 4) sc_law_take.nd rfl (Or.inl rfl) (pe_op op_mod (pe_ix ix_list (pv 0) pe_int (fun _ _ => rfl)) (pv 1)))
      (pss_cons (ps_asg (pe_op op_fdiv (pe_ix ix_list (pv 0) pe_int (fun _ _ => rfl)) (pv 1)) (pg_sub (pv 0) pe_int set_list))
      (pss_one (ps_ret (pv 4)))))), ?_⟩
    refine ⟨fun σ' H' => ∃ (a' : Nat) (acc' : Int) (x y : Option V), σ' = [some (.ref p), some (.int k), x, y, none] ∧ But p H H' ∧ H' p = some (.lst [.ref c, .int (a' : Nat), .int acc']) ∧ H' c = some (.lst (ns.map V.int)) ∧ a' ≤ n + 1, ?_, ?_⟩
    · refine ⟨_, rfl, p, _, _, _, rfl, rfl, SqL.of gp, rfl, _, rfl, _, _, rfl, rfl, _, rfl, ?_⟩
      refine ifb (fun _ => ?_) (fun _ => ?_)
      · refine ⟨_, rfl, p, _, _, _, rfl, rfl, SqL.of gp, rfl, ?_⟩
        refine ⟨fun σ' H' => ∃ z : Int, σ' = [some (.ref p), some (.int k), some (.int (a : Nat)), some (.int z), none] ∧ H = H', ?_, ?_⟩
        · refine ⟨_, rfl, _, rfl, p, _, _, _, rfl, rfl, SqL.of gp, rfl, _, _, rfl, .inl ⟨_, SqL.of gc, rfl⟩, _, _, rfl, rfl, _, rfl, ?_⟩
          rw [List.length_map]
          by_cases c1 : a < ns.length
          · refine ifT (decide_eq_true (by omega)) ?_
            refine ⟨_, rfl, p, _, _, _, rfl, rfl, SqL.of gp, rfl, _, rfl, c, _, _, _, rfl, rfl, SqL.of gc, atI_nat (j := a) (v := .int ns[a]) (by rw [List.getElem?_map, List.getElem?_eq_getElem c1]; rfl), ?_⟩
            exact ⟨_, rfl, rfl⟩
          · refine ifF (decide_eq_false (by omega)) ?_
            refine ⟨_, rfl, p, _, _, _, rfl, rfl, SqL.of gp, rfl, _, _, rfl, .inl ⟨_, SqL.of gc, rfl⟩, _, _, rfl, rfl, _, rfl, ?_⟩
            rw [List.length_map]
            by_cases c2 : 0 < ns.length
            · refine ifT (decide_eq_true (by omega)) ?_
              have hm : (((a : Nat) : Int) * 5 + 3) % ((ns.length : Nat) : Int) = (((a * 5 + 3) % ns.length : Nat) : Int) := by
                rw [Int.natCast_emod]; rfl
              have hlt : (a * 5 + 3) % ns.length < ns.length := Nat.mod_lt _ c2
              obtain ⟨w0, ea⟩ : ∃ w0 : Int, atI (ns.map V.int) ((((a : Nat) : Int) * 5 + 3) % (((ns.map V.int).length : Nat) : Int)) = some (.int w0) := by
                rw [List.length_map, hm]
                exact ⟨ns[(a * 5 + 3) % ns.length], atI_nat (by rw [List.getElem?_map, List.getElem?_eq_getElem hlt]; rfl)⟩
              have pos : (0 : Int) < (((ns.map V.int).length : Nat) : Int) := by rw [List.length_map]; omega
              have e17 : (10 : Int) ^ (17 : Int).toNat = 100000000000000000 := by decide
              refine ⟨_, rfl, p, _, _, _, rfl, rfl, SqL.of gp, rfl, _, rfl, _, _, rfl, rfl, .inr ⟨by decide, by decide⟩, _, _, rfl, rfl, _, rfl, p, _, _, _, rfl, rfl, SqL.of gp, rfl, _, _, rfl, .inl ⟨_, SqL.of gc, rfl⟩, _, _, rfl, rfl, pos,
                c, _, _, _, rfl, rfl, SqL.of gc, ea, _, _, rfl, rfl, ⟨by decide, by decide, by decide⟩, _, rfl, _, _, rfl, rfl, _, _, rfl, rfl, ?_, ?_⟩
              · show (0 : Int) < (10 : Int) ^ (17 : Int).toNat + (a : Int)
                rw [e17]
                omega
              · exact ⟨_, rfl, rfl⟩
            · refine ifF (decide_eq_false (by omega)) ?_
              exact ⟨_, rfl, rfl⟩
        · rintro σ' H' ⟨z, rfl, rfl⟩
          refine ⟨_, rfl, _, _, rfl, rfl, _, rfl, p, _, _, 1, rfl, rfl, gp, rfl, ?_⟩
          refine ⟨_, rfl, _, rfl, z, a, rfl, by omega, fun r H' s1 => ?_⟩
          have g1 : H' p = some (.lst [.ref c, .int ((a + 1 : Nat) : Int), .int acc]) := s1 _ _ upd_same
          have gc1 : H' c = some (.lst (ns.map V.int)) := s1 _ _ (by rw [upd_ne ncp]; exact gc)
          refine ⟨_, rfl, p, _, _, 2, rfl, rfl, g1, rfl, ?_⟩
          exact ⟨a + 1, r, _, _, rfl, (But.set.trans (But.of s1)).trans But.set, upd_same, by rw [upd_ne ncp]; exact gc1, by omega⟩
      · exact ⟨a, acc, none, none, rfl, But.refl _ _, gp, gc, by omega⟩
    · rintro σ' H' ⟨a', acc', x, y, rfl, b, gp', gc', ha'⟩
      refine ⟨_, rfl, p, _, _, _, rfl, rfl, SqL.of gp', rfl, _, rfl, _, _, rfl, rfl, hk0, ?_⟩
      refine ⟨_, rfl, p, _, _, _, rfl, rfl, SqL.of gp', rfl, _, rfl, _, _, rfl, rfl, ⟨hk0, hk⟩, _, rfl, p, _, _, 2, rfl, rfl, gp', rfl, ?_⟩
      refine ⟨_, rfl, ?_⟩
      exact q _ _ (Int.emod_nonneg _ (by omega)) (Int.emod_lt_of_pos _ hk0) ⟨⟨a', _, ns, upd_same, by rw [upd_ne ncp]; exact gc', ncp, hns, ha'⟩, b.trans But.set⟩
theorem ok_law_one_of (T : Txt K mg) : FnOk P w K mg base CX0 3 T.f_law_one_of T.d_law_one_of ["pen", "some"] (sp_law_one_of K) := by
  refine T.F_law_one_of.ok sc_law_one_of (fun vs H Q E h => ?_) (fun cdv A outer s H vs Q E hr h => ?_)
  · obtain ⟨p, c, a, n, xs, rfl, _⟩ := h
    rfl
  · obtain ⟨p, c, a, n, xs, rfl, hp, hS, nap, hne, hz, hn, q⟩ := h
    refine ⟨_, (pss_one (ps_ret (pe_ix ix_list (pv 1) (pe_call (ok_law_take T) (hr.mono (by decide)) rfl T.g_law_take T.F_law_take.kp T.b_law_take .nil pass0 (pa_cons (pv 0) (pa_cons (pe_callB call_len rfl T.z_len boot_len (pa_cons (pv 1) pa_nil)) pa_nil))) (fun _ _ => rfl)))), ?_⟩
    have hpos : 0 < xs.length := List.length_pos_iff.mpr hne
    refine ⟨_, rfl, _, rfl, _, rfl, _, _, rfl, .inl ⟨_, hS, rfl⟩, ?_⟩
    refine ⟨p, c, n, xs.length, rfl, hp, by omega, by omega, hn, fun r H' h0 h1 d => ?_⟩
    have hr' : r.toNat < xs.length := by omega
    have er : r = ((r.toNat : Nat) : Int) := by omega
    refine ⟨a, xs, r, xs[r.toNat], rfl, rfl, d.but.seq nap hS, ?_, ?_⟩
    · exact at_of er (List.getElem?_eq_getElem hr')
    · exact q _ H' (List.getElem_mem hr') d
theorem ok_law_signs (T : Txt K mg) : FnOk P w K mg base CX0 1 T.f_law_signs T.d_law_signs [] sp_law_signs := by
  refine T.F_law_signs.ok sc_law_signs (fun vs H Q E h => ?_) (fun cdv A outer s H vs Q E hr h => ?_)
  · obtain ⟨rfl, _⟩ := h
    rfl
  · obtain ⟨rfl, q⟩ := h
    refine ⟨_, (pss_one (ps_ret pe_str)), ?_⟩
    exact q

theorem ok_law_draw_text (T : Txt K mg) : FnOk P w K mg base CX0 4 T.f_law_draw_text T.d_law_draw_text ["pen", "least", "most"] sp_law_draw_text := by
  refine T.F_law_draw_text.ok sc_law_draw_text (fun vs H Q E h => ?_) (fun cdv A outer s H vs Q E hr h => ?_)
  · obtain ⟨p, c, n, a, b, rfl, _⟩ := h
    rfl
  · obtain ⟨p, c, n, a, b, rfl, hp, hn, ha1, hab, hb, q⟩ := h
    refine ⟨_, (pss_cons (ps_set (i := 3) sc_law_draw_text.nd rfl (Or.inl rfl) (pe_call (ok_law_one_of T) (hr.mono (by decide)) rfl T.g_law_one_of T.F_law_one_of.kp T.b_law_one_of .nil pass0 (pa_cons (pv 0) (pa_cons (pe_lst (pa_cons (pv 1) (pa_cons (pv 2) (pa_cons (pe_op op_add (pv 1) (pe_call (ok_law_take T) (hr.mono (by decide)) rfl T.g_law_take T.F_law_take.kp T.b_law_take .nil pass0 (pa_cons (pv 0) (pa_cons (pe_op op_add (pe_op op_sub (pv 2) (pv 1)) pe_int) pa_nil)))) (pa_cons (pe_callB (call_min2 rfl) rfl T.z_min boot_min (pa_cons (pv 2) (pa_cons (pe_op op_add (pv 1) pe_int) pa_nil))) (pa_cons (pe_callB (call_min2 rfl) rfl T.z_min boot_min (pa_cons (pv 2) (pa_cons pe_int pa_nil))) pa_nil)))))) pa_nil))))
      (Evl.pss_cut (ps_set (i := 3) sc_law_draw_text.nd rfl (Or.inl rfl) (pe_callB (call_max2 rfl) rfl T.z_max boot_max (pa_cons (pv 1) (pa_cons (pv 3) pa_nil))))
      (pss_cons (ps_if (pt_cmpR op_eq (pe_call (ok_law_take T) (hr.mono (by decide)) rfl T.g_law_take T.F_law_take.kp T.b_law_take .nil pass0 (pa_cons (pv 0) (pa_cons pe_int pa_nil))) pe_int (nomark _)) (pss_one (ps_ret (pe_slice sl_str (pe_op op_mul_str (pe_call (ok_law_one_of T) (hr.mono (by decide)) rfl T.g_law_one_of T.F_law_one_of.kp T.b_law_one_of .nil pass0 (pa_cons (pv 0) (pa_cons (pe_lst (pa_cons pe_str (pa_cons pe_str (pa_cons pe_str (pa_cons pe_str (pa_cons pe_str pa_nil)))))) pa_nil))) pe_int) po_none (po_some (pv 3))))) pss_nil)
      (pss_one (ps_ret (pe_join pe_str (pe_lc (own := [("k", 4)]) (g := (gName 4)) (tt := tYes)  rfl sc_law_draw_text.nd (pi_range1 rfl T.z_range (pa_cons (pv 3) pa_nil)) (blkOk_by (own := [("k", 4)]) (N := ["pen", "least", "most", "size", "k"]) (sc := defScope s_law_draw_text) (by decide +kernel)) (fun _ _ _ _ _ => (pg_name (i := 4) sc_law_draw_text.nd rfl (Or.inl rfl))) (fun _ _ _ _ _ => pts_nil) (fun _ _ _ _ _ => (pe_ix ix_str (pe_call0 (ok_law_signs T) (hr.mono (by decide)) rfl T.g_law_signs T.F_law_signs.kp T.b_law_signs .nil pass0) (pe_call (ok_law_take T) (hr.mono (by decide)) rfl T.g_law_take T.F_law_take.kp T.b_law_take .nil pass0 (pa_cons (pv 0) (pa_cons pe_int pa_nil))) (fun _ _ => rfl)))))))))), ?_⟩
    refine ⟨_, rfl, _, rfl, _, rfl, _, rfl, _, rfl, _, rfl, _, rfl, _, _, rfl, rfl, _, _, rfl, rfl, p, c, n, _, rfl, hp, by omega, by omega, by omega, fun r H1 h0 h1 d1 => ?_⟩
    refine ⟨_, _, rfl, rfl, _, rfl, _, rfl, _, _, rfl, rfl, _, _, rfl, _, rfl, _, _, rfl, by show 5 ≤ sizeLine; decide, fun l hl => ?_⟩
    refine ⟨p, c, l, n + 1, _, rfl, d1.pen.keep (Same.new hl), SqL.of upd_same, Ne.symm (d1.pen.ne hl), by simp, by simp, by omega, fun x H2 hx d2 => ?_⟩
    have hx' : ∃ z : Int, x = .int z ∧ 0 ≤ z ∧ z ≤ b := by
      simp only [List.mem_cons, List.not_mem_nil, or_false] at hx
      rcases hx with h | h | h | h | h
      · exact ⟨_, h, by omega, by omega⟩
      · exact ⟨_, h, by omega, by omega⟩
      · exact ⟨_, h, by omega, by omega⟩
      · exact ⟨_, h, by split <;> omega, by split <;> omega⟩
      · exact ⟨_, h, by split <;> omega, by split <;> omega⟩
    obtain ⟨z, rfl, hz0, hz1⟩ := hx'
    have d12 : Drew p c H H2 (n + 2) := ⟨d2.pen, (d1.but.trans (But.new hl)).trans d2.but⟩
    refine ⟨fun σ' H' => ∃ k : Nat, σ' = [some (.ref p), some (.int (a : Nat)), some (.int (b : Nat)), some (.int (k : Nat)), none] ∧ a ≤ k ∧ k ≤ b ∧ H2 = H', ?_, ?_⟩
    · refine ⟨_, rfl, _, rfl, _, _, rfl, ?_⟩
      have e : (if z > (a : Int) then z else (a : Int)) = (((if z > (a : Int) then z else (a : Int)).toNat : Nat) : Int) := by split <;> omega
      refine ⟨(if z > (a : Int) then z else (a : Int)).toNat, ?_, ?_, ?_, rfl⟩
      · rw [← e]; rfl
      · split <;> omega
      · split <;> omega
    · rintro σ' H' ⟨k, rfl, hk0, hk1, rfl⟩
      refine ⟨_, rfl, p, c, n + 2, _, rfl, d12.pen, by omega, by omega, by omega, fun r3 H3 h30 h31 d3 => ?_⟩
      have d123 := d12.trans d3
      refine ⟨rfl, _, rfl, ?_⟩
      refine ifb (fun _ => ?_) (fun _ => ?_)
      · refine ⟨_, rfl, by show 5 ≤ sizeLine; decide, fun l2 hl2 => ?_⟩
        refine ⟨p, c, l2, n + 3, _, rfl, d123.pen.keep (Same.new hl2), SqL.of upd_same, Ne.symm (d123.pen.ne hl2), by simp, by simp, by omega, fun x H4 hx d4 => ?_⟩
        have hw : ∃ y ∈ textWords, x = .str y := by
          simp only [List.mem_cons, List.not_mem_nil, or_false] at hx
          rcases hx with h | h | h | h | h
          · exact ⟨_, by decide, h⟩
          · exact ⟨_, by decide, h⟩
          · exact ⟨_, by decide, h⟩
          · exact ⟨_, by decide, h⟩
          · exact ⟨_, by decide, h⟩
        obtain ⟨y, hy, rfl⟩ := hw
        have ok := List.all_eq_true.mp words_ok y hy
        simp only [Bool.and_eq_true, decide_eq_true_eq] at ok
        obtain ⟨⟨ok1, ok2⟩, ok3⟩ := ok
        refine ⟨y, 9, rfl, rfl, by decide, by decide, ok2, by omega, ?_⟩
        have hrl := rep_len y 9
        refine ⟨_, rfl, _, rfl, _, rfl, ?_, ?_⟩
        · exact len100 (by show (repS y 9).length ≤ 100000; omega)
        · refine q _ H4 ?_ ⟨d4.pen.mono (by omega), (d123.but.trans (But.new hl2)).trans d4.but⟩
          have hl9 : (repS y 9).cps.toList.length = 9 * y.length := by rw [← str_len]; exact hrl
          refine txt_cut (x := repS y 9) ?_ ⟨ha1, hk0, hk1⟩ (rep_all ok1)
          omega
      · refine ⟨⟨_, rfl⟩, _, rfl, _, rfl, by omega, by omega, fun D hD => ?_⟩
        refine lc_gen walk_range (fun i ys H' => Drew p c H3 H' (n + 3 + i) ∧ ∃ cs : List Nat, ys = cs.map (fun c => V.str ⟨#[c]⟩) ∧ cs.all isChar = true) (by omega) ?_ (fun _ _ _ _ => True.intro) ?_ ?_
        · exact ⟨⟨(d123.pen.upd (d123.pen.ne hD) (d123.pen.nec hD)).mono (by omega), But.new hD⟩, [], rfl, rfl⟩
        · rintro i ys x H' H'' Q' Z hi hl hDl ⟨d4, cs, rfl, hcs⟩ ⟨rfl, rfl⟩ q'
          refine ⟨rfl, yesI ?_⟩
          refine ⟨rfl, _, rfl, p, c, n + 3 + i, _, rfl, d4.pen, by omega, by omega, by omega, fun r5 H5 h50 h51 d5 => ?_⟩
          have hr5 : r5.toNat < charCodes.length := by
            have : charCodes.length = 43 := rfl
            omega
          have e5 : charCodes[r5.toNat]? = some charCodes[r5.toNat] := List.getElem?_eq_getElem hr5
          have e6 : signs.cps.toList[r5.toNat]? = some charCodes[r5.toNat] := by rw [signs_cps]; exact e5
          refine ⟨signs, r5, charCodes[r5.toNat], rfl, rfl, by decide, at_ofN (j := r5.toNat) (by omega) e6, ?_⟩
          have npD : p ≠ D := d123.pen.ne hD
          have ncD : c ≠ D := d123.pen.nec hD
          refine q' _ H5 (d5.but D _ (Ne.symm npD) hDl) ⟨⟨(d5.pen.upd npD ncD).mono (by omega), (d4.but.trans d5.but).put hD⟩, cs ++ [charCodes[r5.toNat]], ?_, ?_⟩
          · rw [List.map_append]; rfl
          · rw [List.all_append, hcs]
            have : isChar charCodes[r5.toNat] = true := List.contains_iff_mem.mpr (List.getElem_mem hr5)
            simp [this]
        · rintro ys H' hl hDl ⟨d4, cs, rfl, hcs⟩
          rw [List.length_map] at hl
          refine ⟨"", D, cs.map (fun c => (⟨#[c]⟩ : Str)), rfl, rfl, .inl (SqL.of (by rw [hDl, List.map_map]; rfl)), ?_, ?_⟩
          · have e0 : ("" : Str).length = 0 := rfl
            have e1 : ((cs.map (fun c => (⟨#[c]⟩ : Str))).map (·.length)).sum = cs.length := by
              rw [List.map_map]
              clear hcs hDl hl
              induction cs with
              | nil => rfl
              | cons a r ih => rw [List.map_cons, List.sum_cons, ih, List.length_cons]; show 1 + r.length = _; omega
            rw [e1, e0]
            omega
          · have ej : Txt.join "" (cs.map (fun c => (⟨#[c]⟩ : Str))) = ⟨cs.toArray⟩ := join_signs cs
            rw [ej]
            have e2 : (⟨cs.toArray⟩ : Str).length = cs.length := by show cs.toArray.size = _; simp
            refine q _ H' (txt_of (by omega) (by omega) ?_) (d123.trans (d4.mono (by omega)))
            show cs.toArray.toList.all isChar = true
            simpa using hcs

theorem ok_law_draw_near_field (T : Txt K mg) : FnOk P w K mg base CX0 5 T.f_law_draw_near_field T.d_law_draw_near_field ["pen"] (sp_near_field K) := by
  refine T.F_law_draw_near_field.ok sc_law_draw_near_field (fun vs H Q E h => ?_) (fun cdv A outer s H vs Q E hr h => ?_)
  · obtain ⟨p, c, n, rfl, _⟩ := h
    rfl
  · obtain ⟨p, c, n, rfl, hp, hn, q⟩ := h
    refine ⟨_, (pss_cons (ps_par (i := 1) (j := 2) rfl sc_law_draw_near_field.nd rfl rfl (by decide) rfl rfl (pa_cons (pe_lst (pa_cons pe_str (pa_cons pe_str (pa_cons pe_str (pa_cons pe_str (pa_cons pe_str pa_nil)))))) (pa_cons (pe_lst (pa_cons pe_str (pa_cons pe_str (pa_cons pe_str (pa_cons pe_str (pa_cons pe_str pa_nil)))))) pa_nil)) (by rfl))
      (pss_cons (ps_if (pt_cmpR op_eq (pe_call (ok_law_take T) (hr.mono (by decide)) rfl T.g_law_take T.F_law_take.kp T.b_law_take .nil pass0 (pa_cons (pv 0) (pa_cons pe_int pa_nil))) pe_int (nomark _)) (pss_one (ps_ret (pe_tup (pa_cons (pe_call (ok_law_draw_text T) (hr.mono (by decide)) rfl T.g_law_draw_text T.F_law_draw_text.kp T.b_law_draw_text .nil pass0 (pa_cons (pv 0) (pa_cons pe_int (pa_cons pe_int pa_nil)))) (pa_cons (pe_call (ok_law_draw_text T) (hr.mono (by decide)) rfl T.g_law_draw_text T.F_law_draw_text.kp T.b_law_draw_text .nil pass0 (pa_cons (pv 0) (pa_cons pe_int (pa_cons pe_int pa_nil)))) pa_nil))))) pss_nil)
      (pss_one (ps_ret (pe_tup (pa_cons (pe_call (ok_law_one_of T) (hr.mono (by decide)) rfl T.g_law_one_of T.F_law_one_of.kp T.b_law_one_of .nil pass0 (pa_cons (pv 0) (pa_cons (pv 1) pa_nil))) (pa_cons (pe_call (ok_law_one_of T) (hr.mono (by decide)) rfl T.g_law_one_of T.F_law_one_of.kp T.b_law_one_of .nil pass0 (pa_cons (pv 0) (pa_cons (pv 2) pa_nil))) pa_nil))))))), ?_⟩
    refine ⟨by show 5 ≤ sizeLine; decide, fun l1 hl1 => ⟨by show 5 ≤ sizeLine; decide, fun l2 hl2 => ⟨_, _, rfl, ?_⟩⟩⟩
    have hl2' : upd H l1 (.lst (nearNames.map V.str)) l2 = none := hl2
    have s1 := Same.new (o := .lst (nearNames.map V.str)) hl1
    have s2 := Same.new (o := .lst (nearVals.map V.str)) hl2'
    have g1 : upd (upd H l1 (.lst (nearNames.map V.str))) l2 (.lst (nearVals.map V.str)) l1 = some (.lst (nearNames.map V.str)) := s2 _ _ upd_same
    have g2 : upd (upd H l1 (.lst (nearNames.map V.str))) l2 (.lst (nearVals.map V.str)) l2 = some (.lst (nearVals.map V.str)) := upd_same
    have P2 := (hp.keep s1).keep s2
    have s12 := s1.trans s2
    have n1 : l1 ≠ p := Ne.symm (hp.ne hl1)
    have n2 : l2 ≠ p := Ne.symm ((hp.keep s1).ne hl2')
    show tSeq _ _ _ _ (upd (upd H l1 (.lst (nearNames.map V.str))) l2 (.lst (nearVals.map V.str)))
    generalize upd (upd H l1 (.lst (nearNames.map V.str))) l2 (.lst (nearVals.map V.str)) = H2 at g1 g2 P2 s12 ⊢
    refine ⟨_, rfl, p, c, n, 5, rfl, P2, by decide, by decide, by omega, fun r H3 h0 h1 d3 => ⟨rfl, _, rfl, ifb (fun _ => ?_) (fun _ => ?_)⟩⟩
    · refine ⟨_, rfl, p, c, n + 1, 1, 20, rfl, d3.pen, by omega, by decide, by decide, by decide, fun x H4 hx d4 => ?_⟩
      refine ⟨_, rfl, p, c, n + 1 + 50, 0, 40, rfl, d4.pen, by omega, by decide, by decide, by decide, fun y H5 hy d5 => ?_⟩
      refine ⟨by show 2 ≤ sizeLine; decide, fun t ht => ?_⟩
      exact q _ (x, y) _ ⟨t, rfl, SqT.of upd_same⟩ ⟨hx, hy⟩ ((Drew.pre s12 (((d3.trans d4).trans d5).keep (Same.new ht))).mono (by omega))
    · refine ⟨_, rfl, _, rfl, p, c, l1, n + 1, _, rfl, d3.pen, SqL.of (d3.but _ _ n1 g1), n1, by show nearNames.map V.str ≠ []; decide, by show 5 ≤ 1000; decide, by omega, fun x H4 hx d4 => ?_⟩
      obtain ⟨xs, hxs, rfl⟩ := List.mem_map.mp hx
      refine ⟨_, rfl, _, rfl, p, c, l2, n + 1 + 1, _, rfl, d4.pen, SqL.of (d4.but _ _ n2 (d3.but _ _ n2 g2)), n2, by show nearVals.map V.str ≠ []; decide, by show 5 ≤ 1000; decide, by omega, fun y H5 hy d5 => ?_⟩
      obtain ⟨ys, hys, rfl⟩ := List.mem_map.mp hy
      refine ⟨by show 2 ≤ sizeLine; decide, fun t ht => ?_⟩
      exact q _ (xs, ys) _ ⟨t, rfl, SqT.of upd_same⟩ ⟨List.all_eq_true.mp near_ok.1 _ hxs, List.all_eq_true.mp near_ok.2 _ hys⟩ ((Drew.pre s12 (((d3.trans d4).trans d5).keep (Same.new ht))).mono (by omega))
theorem ok_law_draw_setting (T : Txt K mg) : FnOk P w K mg base CX0 6 T.f_law_draw_setting T.d_law_draw_setting ["pen"] (sp_draw_setting K) := by
  refine T.F_law_draw_setting.ok sc_law_draw_setting (fun vs H Q E h => ?_) (fun cdv A outer s H vs Q E hr h => ?_)
  · obtain ⟨p, c, n, rfl, _⟩ := h
    rfl
  · obtain ⟨p, c, n, rfl, hp, hn, q⟩ := h
    refine ⟨_, (pss_cons (ps_set (i := 1) sc_law_draw_setting.nd rfl (Or.inl rfl) (pe_callTy call_tuple_of rfl T.z_tuple boot_tuple (pa_cons (pe_lc (own := [("again", 2)]) (g := (gName 2)) (tt := tYes)  rfl sc_law_draw_setting.nd (pi_range1 rfl T.z_range (pa_cons (pe_call (ok_law_one_of T) (hr.mono (by decide)) rfl T.g_law_one_of T.F_law_one_of.kp T.b_law_one_of .nil pass0 (pa_cons (pv 0) (pa_cons (pe_lst (pa_cons pe_int (pa_cons pe_int (pa_cons pe_int (pa_cons pe_int pa_nil))))) pa_nil))) pa_nil)) (blkOk_by (own := [("again", 2)]) (N := ["pen", "fixed", "again"]) (sc := defScope s_law_draw_setting) (by decide +kernel)) (fun _ _ _ _ _ => (pg_name (i := 2) sc_law_draw_setting.nd rfl (Or.inl rfl))) (fun _ _ _ _ _ => pts_nil) (fun _ _ _ _ _ => (pe_call (ok_law_draw_near_field T) (hr.mono (by decide)) rfl T.g_law_draw_near_field T.F_law_draw_near_field.kp T.b_law_draw_near_field .nil pass0 (pa_cons (pv 0) pa_nil)))) pa_nil)))
      (pss_one (ps_ret (pe_tup (pa_cons (pv 1) (pa_cons (pe_call (ok_law_one_of T) (hr.mono (by decide)) rfl T.g_law_one_of T.F_law_one_of.kp T.b_law_one_of .nil pass0 (pa_cons (pv 0) (pa_cons (pe_lst (pa_cons pe_int (pa_cons pe_int (pa_cons pe_int (pa_cons pe_int (pa_cons pe_int (pa_cons pe_int (pa_cons (pe_call (ok_law_take T) (hr.mono (by decide)) rfl T.g_law_take T.F_law_take.kp T.b_law_take .nil pass0 (pa_cons (pv 0) (pa_cons pe_int pa_nil))) pa_nil)))))))) pa_nil))) (pa_cons (pe_call (ok_law_take T) (hr.mono (by decide)) rfl T.g_law_take T.F_law_take.kp T.b_law_take .nil pass0 (pa_cons (pv 0) (pa_cons pe_int pa_nil))) pa_nil))))))), ?_⟩
    refine ⟨_, rfl, by show 4 ≤ sizeLine; decide, fun l hl => ?_⟩
    refine ⟨p, c, l, n, _, rfl, hp.new hl, SqL.of upd_same, Ne.symm (hp.ne hl), by simp, by show 4 ≤ 1000; decide, by omega, fun x H1 hx d1 => ?_⟩
    obtain ⟨z, rfl, hz0, hz1⟩ : ∃ z : Nat, x = .int (z : Nat) ∧ 0 ≤ z ∧ z ≤ 12 := by
      simp only [List.mem_cons, List.not_mem_nil, or_false] at hx
      rcases hx with h | h | h | h
      · exact ⟨0, h, by omega, by omega⟩
      · exact ⟨1, h, by omega, by omega⟩
      · exact ⟨3, h, by omega, by omega⟩
      · exact ⟨12, h, by omega, by omega⟩
    have D1 : Drew p c H H1 (n + 1) := ⟨d1.pen, (But.new hl).trans d1.but⟩
    refine ⟨_, rfl, by omega, by omega, fun C hC => ?_⟩
    rw [Int.toNat_natCast]
    refine lc_gen walk_range (fun i ys H' => Drew p c H1 H' (n + 1 + 110 * i) ∧ ∃ F, FdsV K H' ys F ∧ (∀ f ∈ F, FdOk f) ∧ F.length = i) (by omega) ⟨⟨(D1.pen.new hC).mono (by omega), But.new hC⟩, [], .nil, fun _ h => (nomatch h), rfl⟩ (fun _ _ _ _ => True.intro) ?_ ?_
    · rintro i ys x H' H'' Q' Z hi hly gC ⟨dr, F, hF, hok, hlF⟩ ⟨rfl, rfl⟩ q'
      have nCp : C ≠ p := Ne.symm (D1.pen.ne hC)
      have ncC := D1.pen.nec hC
      refine ⟨rfl, yesI ?_⟩
      refine ⟨_, rfl, p, c, _, rfl, dr.pen, by omega, fun v f H4 hv hf d4 => ?_⟩
      have gC4 := d4.but _ _ nCp gC
      have t4 := TS.drew dr.pen d4
      refine q' v H4 gC4 ⟨⟨(d4.pen.upd (Ne.symm nCp) ncC).mono (by omega), (dr.but.trans d4.but).put hC⟩, F ++ [f], p_app ((hF.ts t4).ts (TS.at gC4 nt_lst)) (.cons (hv.ts (TS.at gC4 nt_lst)) .nil), fun g hg => ?_, by rw [List.length_append, hlF]; rfl⟩
      rcases List.mem_append.mp hg with h | h
      · exact hok g h
      · rw [List.mem_singleton.mp h]; exact hf
    · rintro ys H2 hly gC ⟨dr, F, hF, hok, hlF⟩
      refine ⟨C, ys, rfl, .inl ⟨SqL.of gC, fun t ht => ?_⟩⟩
      have s3 := Same.new (o := .tup ys) ht
      have gt : upd H2 t (.tup ys) t = some (.tup ys) := upd_same
      have D3 := (D1.trans dr).keep s3
      have F3 := hF.ts (.of s3)
      generalize upd H2 t (.tup ys) = H3 at gt D3 F3 ⊢
      refine ⟨_, rfl, _, rfl, _, rfl, p, c, _, 121, rfl, D3.pen, by decide, by decide, by omega, fun r4 H4 h40 h41 d4 => ?_⟩
      refine ⟨by show 7 ≤ sizeLine; decide, fun l5 hl5 => ?_⟩
      refine ⟨p, c, l5, _, _, rfl, d4.pen.new hl5, SqL.of upd_same, Ne.symm (d4.pen.ne hl5), by simp, by show 7 ≤ 1000; decide, by omega, fun x H6 hx d6 => ?_⟩
      obtain ⟨rm, rfl, hrm⟩ : ∃ z : Nat, x = .int (z : Nat) ∧ z ≤ 120 := by
        simp only [List.mem_cons, List.not_mem_nil, or_false] at hx
        rcases hx with h | h | h | h | h | h | h
        · exact ⟨0, h, by omega⟩
        · exact ⟨20, h, by omega⟩
        · exact ⟨30, h, by omega⟩
        · exact ⟨60, h, by omega⟩
        · exact ⟨90, h, by omega⟩
        · exact ⟨120, h, by omega⟩
        · exact ⟨r4.toNat, by rw [h, Int.toNat_of_nonneg h40], by omega⟩
      refine ⟨_, rfl, p, c, _, 5, rfl, d6.pen, by decide, by decide, by omega, fun r7 H7 h70 h71 d7 => ?_⟩
      obtain ⟨w7, rfl⟩ : ∃ k : Nat, r7 = (k : Int) := ⟨r7.toNat, by omega⟩
      refine ⟨by show 3 ≤ sizeLine; decide, fun st hst => ?_⟩
      have D6 : Drew p c H3 H6 _ := ⟨d6.pen, d4.but.trans ((But.new hl5).trans d6.but)⟩
      have D7 := (D6.trans d7).keep (Same.new (o := .tup [.ref t, .int (rm : Nat), .int (w7 : Nat)]) hst)
      have t7 := TS.drew D3.pen D7
      refine q _ F rm w7 _ ⟨st, t, ys, rfl, SqT.of upd_same, t7.tup (SqT.of gt), F3.ts t7⟩ ⟨by omega, hok, hrm, by omega⟩ ((D3.trans D7).mono (by omega))
theorem ok_law_draw_entries (T : Txt K mg) : FnOk P w K mg base CX0 6 T.f_law_draw_entries T.d_law_draw_entries ["pen"] (sp_draw_entries K) := by
  refine T.F_law_draw_entries.ok sc_law_draw_entries (fun vs H Q E h => ?_) (fun cdv A outer s H vs Q E hr h => ?_)
  · obtain ⟨p, c, n, rfl, _⟩ := h
    rfl
  · obtain ⟨p, c, n, rfl, hp, hn, q⟩ := h
    refine ⟨_, (pss_cons (ps_set (i := 1) sc_law_draw_entries.nd rfl (Or.inl rfl) (pe_call (ok_law_one_of T) (hr.mono (by decide)) rfl T.g_law_one_of T.F_law_one_of.kp T.b_law_one_of .nil pass0 (pa_cons (pv 0) (pa_cons (pe_lst (pa_cons pe_int (pa_cons pe_int (pa_cons pe_int (pa_cons pe_int (pa_cons (pe_call (ok_law_take T) (hr.mono (by decide)) rfl T.g_law_take T.F_law_take.kp T.b_law_take .nil pass0 (pa_cons (pv 0) (pa_cons pe_int pa_nil))) pa_nil)))))) pa_nil))))
      (pss_cons (ps_set (i := 2) sc_law_draw_entries.nd rfl (Or.inl rfl) pe_dnewK)
      (pss_cons (ps_for PassesOwn.never rfl (pi_range1 rfl T.z_range (pa_cons (pe_call (ok_law_one_of T) (hr.mono (by decide)) rfl T.g_law_one_of T.F_law_one_of.kp T.b_law_one_of .nil pass0 (pa_cons (pv 0) (pa_cons (pe_lst (pa_cons pe_int (pa_cons pe_int (pa_cons pe_int (pa_cons pe_int (pa_cons pe_int (pa_cons pe_int (pa_cons pe_int pa_nil)))))))) pa_nil))) pa_nil)) (pg_name (i := 3) sc_law_draw_entries.nd rfl (Or.inl rfl))
        (pss_one (ps_dput (hu_of hr) (pv 2) (pe_op op_add (pv 1) (pe_call (ok_law_one_of T) (hr.mono (by decide)) rfl T.g_law_one_of T.F_law_one_of.kp T.b_law_one_of .nil pass0 (pa_cons (pv 0) (pa_cons (pe_lst (pa_cons (pv 3) (pa_cons (pe_call (ok_law_take T) (hr.mono (by decide)) rfl T.g_law_take T.F_law_take.kp T.b_law_take .nil pass0 (pa_cons (pv 0) (pa_cons pe_int pa_nil))) pa_nil))) pa_nil)))) (pe_call (ok_law_draw_near_field T) (hr.mono (by decide)) rfl T.g_law_draw_near_field T.F_law_draw_near_field.kp T.b_law_draw_near_field .nil pass0 (pa_cons (pv 0) pa_nil)) rfl)))
      (pss_one (ps_ret (pv 2)))))), ?_⟩
    refine ⟨_, rfl, _, rfl, p, c, n, 17, rfl, hp, by decide, by decide, by omega, fun r H1 h0 h1 d1 => ?_⟩
    refine ⟨by show 5 ≤ sizeLine; decide, fun l hl => ?_⟩
    refine ⟨p, c, l, _, _, rfl, d1.pen.new hl, SqL.of upd_same, Ne.symm (d1.pen.ne hl), by simp, by show 5 ≤ 1000; decide, by omega, fun x H2 hx d2 => ?_⟩
    obtain ⟨fs, rfl, hfs⟩ : ∃ z : Nat, x = .int (z : Nat) ∧ z ≤ 16 := by
      simp only [List.mem_cons, List.not_mem_nil, or_false] at hx
      rcases hx with h | h | h | h | h
      · exact ⟨0, h, by omega⟩
      · exact ⟨0, h, by omega⟩
      · exact ⟨1, h, by omega⟩
      · exact ⟨14, h, by omega⟩
      · exact ⟨r.toNat, by rw [h, Int.toNat_of_nonneg h0], by omega⟩
    have D2 : Drew p c H H2 (n + 2) := ⟨d2.pen, d1.but.trans ((But.new hl).trans d2.but)⟩
    refine fun D hD => ?_
    have hDp : D ≠ p := Ne.symm (D2.pen.ne hD)
    have hDc : c ≠ D := D2.pen.nec hD
    have hDH : H D = none := D2.but.none hDp hD
    have P3 := D2.pen.new (o := .dK []) hD
    have B3 : But p H (upd H2 D (.dK [])) := D2.but.put hDH
    have gD : upd H2 D (.dK []) D = some (.dK []) := upd_same
    generalize upd H2 D (.dK []) = H3 at P3 B3 gD ⊢
    refine ⟨_, rfl, by show 7 ≤ sizeLine; decide, fun l2 hl2 => ?_⟩
    refine ⟨p, c, l2, _, _, rfl, P3.new hl2, SqL.of upd_same, Ne.symm (P3.ne hl2), by simp, by show 7 ≤ 1000; decide, by omega, fun x H4 hx d4 => ?_⟩
    obtain ⟨m, rfl, hm⟩ : ∃ z : Nat, x = .int (z : Nat) ∧ z ≤ 24 := by
      simp only [List.mem_cons, List.not_mem_nil, or_false] at hx
      rcases hx with h | h | h | h | h | h | h
      · exact ⟨0, h, by omega⟩
      · exact ⟨1, h, by omega⟩
      · exact ⟨2, h, by omega⟩
      · exact ⟨4, h, by omega⟩
      · exact ⟨4, h, by omega⟩
      · exact ⟨8, h, by omega⟩
      · exact ⟨24, h, by omega⟩
    have gD4 := d4.but _ _ hDp ((Same.new hl2) _ _ gD)
    have B4 : But p H H4 := B3.trans ((But.new hl2).trans d4.but)
    refine ⟨_, rfl, by omega, by omega, ?_⟩
    rw [Int.toNat_natCast]
    refine for_range (lo := 0) (n := m) (fun i σ H' => ∃ (v3 : Option V) (es : Ent), σ = [some (.ref p), some (.int (fs : Nat)), some (.ref D), v3] ∧ Pen H' p c (n + 3 + 150 * i) ∧ But p H H' ∧ EntV K H' D es ∧ EsOk i es ∧ ∀ e ∈ es, e.1 ≤ 39) ⟨_, [], rfl, d4.pen.mono (by omega), B4, ⟨[], gD4, .nil⟩, ⟨by simp, fun e h => (nomatch h), fun e h => (nomatch h), by simp⟩, fun e h => (nomatch h)⟩ ?_ ?_
    · rintro i σ H5 hi ⟨v3, es, rfl, P5, B5, ⟨kvs, gD5, hE⟩, ok, k39⟩
      refine ⟨_, rfl, p, c, _, rfl, P5, by omega, fun v f H6 hv hf d6 => ?_⟩
      refine ⟨_, rfl, _, rfl, _, rfl, _, rfl, _, rfl, p, c, _, 24, rfl, d6.pen, by decide, by decide, by omega, fun r7 H7 h70 h71 d7 => ?_⟩
      refine ⟨by show 2 ≤ sizeLine; decide, fun l8 hl8 => ?_⟩
      refine ⟨p, c, l8, _, _, rfl, d7.pen.new hl8, SqL.of upd_same, Ne.symm (d7.pen.ne hl8), by simp, by show 2 ≤ 1000; decide, by omega, fun x H8 hx d8 => ?_⟩
      obtain ⟨z, rfl, hz⟩ : ∃ z : Nat, x = .int (z : Nat) ∧ z ≤ 23 := by
        simp only [List.mem_cons, List.not_mem_nil, or_false] at hx
        rcases hx with h | h
        · exact ⟨i, by rw [h]; congr 1; omega, by omega⟩
        · exact ⟨r7.toNat, by rw [h, Int.toNat_of_nonneg h70], by omega⟩
      have D8 : Drew p c H5 H8 _ := ⟨d8.pen, (d6.but.trans d7.but).trans ((But.new hl8).trans d8.but)⟩
      have t8 : TS H6 H8 := (TS.drew d6.pen d7).trans ((TS.new hl8).trans (TS.drew (d7.pen.new hl8) d8))
      have gD8 := D8.but _ _ hDp gD5
      have E8 : Paired (PrV K H8) kvs es := pmap (fun _ _ z => z.ts (TS.drew P5 D8)) hE
      have hkl := p_len hE
      have hok := ok.len
      refine ⟨_, _, rfl, rfl, D, _, rfl, .inl ⟨kvs, nkey (fs + z), gD8, ?_, by rw [sizeLine_eq]; omega, rfl⟩, ?_⟩
      · show V.int _ = V.int _; congr 1
      · have tD : TS H8 (upd H8 D (.dK (putK kvs (nkey (fs + z)) v))) := TS.at gD8 nt_dK
        refine ⟨_, putE es (fs + z) f, rfl, (d8.pen.upd (Ne.symm hDp) hDc).mono (by omega), (B5.trans D8.but).put hDH, ⟨_, upd_same, pmap (fun _ _ z => z.ts tD) (put_get E8 (hv.ts t8))⟩, ok.put (by omega) hf, fun e he => ?_⟩
        unfold putE at he
        split at he
        · obtain ⟨y, hy, rfl⟩ := List.mem_map.mp he
          have := k39 y hy
          split <;> exact this
        · rcases List.mem_append.mp he with h | h
          · exact k39 e h
          · rw [List.mem_singleton.mp h]; show fs + z ≤ 39; omega
    · rintro σ H5 ⟨v3, es, rfl, P5, B5, hE, ok, k39⟩
      exact ⟨_, rfl, q D es H5 hDH hE (ok.mono (by omega)) k39 ⟨P5.mono (by omega), B5⟩⟩
theorem ok_law_draw_saying (T : Txt K mg) : FnOk P w K mg base CX0 6 T.f_law_draw_saying T.d_law_draw_saying ["pen", "fixed", "entries"] (sp_saying K) := by
  refine T.F_law_draw_saying.ok sc_law_draw_saying (fun vs H Q E h => ?_) (fun cdv A outer s H vs Q E hr h => ?_)
  · obtain ⟨p, c, t, D, n, F, es, rfl, _⟩ := h
    rfl
  · obtain ⟨p, c, t, D, n, F, es, rfl, hp, hn, hT, hF12, okF, okE, q⟩ := h
    have hud : (A.deeper (envOfC "_law_draw_saying" (defScope s_law_draw_saying) s.heap.objs.size T.f_law_draw_saying cdv)).units + 64 < cLine := by have := hr.un; omega
    refine ⟨_, (Evl.pss_cut (ps_set (i := 3) sc_law_draw_saying.nd rfl (Or.inl rfl) (pe_op op_cat (pe_lc (own := [("k", 4)]) (g := (gName 4)) (tt := tYes)  rfl sc_law_draw_saying.nd (pi_range1 rfl T.z_range (pa_cons (pe_callB call_len rfl T.z_len boot_len (pa_cons (pv 1) pa_nil)) pa_nil)) (blkOk_by (own := [("k", 4)]) (N := ["pen", "fixed", "entries", "some", "k", "number", "found", "again", "field"]) (sc := defScope s_law_draw_saying) (by decide +kernel)) (fun _ _ _ _ _ => (pg_name (i := 4) sc_law_draw_saying.nd rfl (Or.inl rfl))) (fun _ _ _ _ _ => pts_nil) (fun _ _ _ _ _ => (pe_ix (ixK (K := K) (r := rIxT) ix_tup) (pv 1) (pv 4) (fun _ _ => rfl)))) (pe_lc (own := [("number", 5)]) (g := (gName 5)) (tt := tYes)  rfl sc_law_draw_saying.nd (pi_list (pe_callB (call_sortedDI rfl) rfl T.z_sorted boot_sorted (pa_cons (pv 2) pa_nil))) (blkOk_by (own := [("number", 5)]) (N := ["pen", "fixed", "entries", "some", "k", "number", "found", "again", "field"]) (sc := defScope s_law_draw_saying) (by decide +kernel)) (fun _ _ _ _ _ => (pg_name (i := 5) sc_law_draw_saying.nd rfl (Or.inl rfl))) (fun _ _ _ _ _ => pts_nil) (fun _ _ _ _ _ => (pe_dget (hu_of hr) (pv 2) (pv 5) (fun _ _ => rfl))))))
      (pss_cons (ps_set (i := 6) sc_law_draw_saying.nd rfl (Or.inl rfl) (pe_lst pa_nil))
      (pss_cons (ps_for PassesOwn.never rfl (pi_range1 rfl T.z_range (pa_cons (pe_call (ok_law_one_of T) (hr.mono (by decide)) rfl T.g_law_one_of T.F_law_one_of.kp T.b_law_one_of .nil pass0 (pa_cons (pv 0) (pa_cons (pe_lst (pa_cons pe_int (pa_cons pe_int (pa_cons pe_int (pa_cons pe_int (pa_cons pe_int (pa_cons pe_int pa_nil))))))) pa_nil))) pa_nil)) (pg_name (i := 7) sc_law_draw_saying.nd rfl (Or.inl rfl))
        (pss_cons (ps_set (i := 8) sc_law_draw_saying.nd rfl (Or.inl rfl) (pe_call (ok_law_draw_near_field T) (hr.mono (by decide)) rfl T.g_law_draw_near_field T.F_law_draw_near_field.kp T.b_law_draw_near_field .nil pass0 (pa_cons (pv 0) pa_nil)))
      (Evl.pss_cut (ps_if (PW.pt (pw_and (pt_cmpR (op_neD hud) (pv 3) (pe_lst pa_nil) (nomark _)) (pw_and1 (pt_cmpR op_gt (pe_call (ok_law_take T) (hr.mono (by decide)) rfl T.g_law_take T.F_law_take.kp T.b_law_take .nil pass0 (pa_cons (pv 0) (pa_cons pe_int pa_nil))) pe_int (nomark _))))) (pss_cons (ps_set (i := 8) sc_law_draw_saying.nd rfl (Or.inl rfl) (pe_call (ok_law_one_of T) (hr.mono (by decide)) rfl T.g_law_one_of T.F_law_one_of.kp T.b_law_one_of .nil pass0 (pa_cons (pv 0) (pa_cons (pv 3) pa_nil))))
      (pss_one (ps_set (i := 8) sc_law_draw_saying.nd rfl (Or.inl rfl) (pe_tup (pa_cons (pe_ix ix_tup (pv 8) pe_int (fun _ _ => rfl)) (pa_cons (pe_call (ok_law_one_of T) (hr.mono (by decide)) rfl T.g_law_one_of T.F_law_one_of.kp T.b_law_one_of .nil pass0 (pa_cons (pv 0) (pa_cons (pe_lst (pa_cons (pe_ix ix_tup (pv 8) pe_int (fun _ _ => rfl)) (pa_cons (pe_ix ix_tup (pv 8) pe_int (fun _ _ => rfl)) (pa_cons pe_str pa_nil)))) pa_nil))) pa_nil)))))) pss_nil)
      (pss_one (ps_expr (pe_bm PySem.F.plainAttrs_list PySem.F.slot_list_append PySem.F.type_list_append mt_append (pv 6) (pa_cons (pv 8) pa_nil)))))))
      (pss_one (ps_ret (pe_callTy call_tuple_of rfl T.z_tuple boot_tuple (pa_cons (pv 6) pa_nil))))))), ?_⟩
    obtain ⟨⟨xs, hx, hxs⟩, kvs, hD, hpp⟩ := id hT
    have hxl := p_len hxs
    have hkl := p_len hpp
    have hel := okE.len
    -- some
    refine ⟨fun σ' H' => ∃ (v4 v5 : Option V) (so : Addr) (ys : List V) (gs : List Fd), σ' = [some (.ref p), some (.ref t), some (.ref D), some (.ref so), v4, v5, none, none, none] ∧ Same H H' ∧ H so = none ∧ H' so = some (.lst ys) ∧ FdsV K H' ys gs ∧ (∀ f ∈ gs, FdOk f) ∧ gs.length ≤ 36, ?_, ?_⟩
    · refine ⟨_, rfl, _, _, rfl, .inr ⟨_, hx, rfl⟩, _, rfl, by omega, by omega, fun C hC => ?_⟩
      refine lc_rel (R := fun v f H => FdV K H v f) (fun _ _ _ _ t z => z.ts t) F walk_range (by rw [Int.toNat_natCast]; exact hxl) (by omega) hC (fun _ _ => trivial) ?_ ?_
      · rintro i x f H' H'' Q' Z hf s1 _ ⟨rfl, rfl⟩ q'
        obtain ⟨v, hv, hvf⟩ := p_at' hxs hf
        refine ⟨rfl, yesI ⟨_, rfl, _, rfl, _, _, _, _, rfl, rfl, s1.tup hx, ?_, q' v H'' (Same.refl _) (hvf.ts (.of s1))⟩⟩
        show atI xs (0 + (i : Nat)) = some v
        rw [Int.zero_add]
        exact atI_nat hv
      intro ys H1 s1 hC1 hys
      have hyl := p_len hys
      refine ⟨_, rfl, D, kvs, _, rfl, .inl (s1 _ _ hD), keys_inl hpp, by rw [List.length_map]; omega, fun zs pL perm sorted hpL => ?_⟩
      have s2 := Same.new (o := .lst (zs.map V.int)) hpL
      have g2 : upd H1 pL (.lst (zs.map V.int)) pL = some (.lst (zs.map V.int)) := upd_same
      generalize upd H1 pL (.lst (zs.map V.int)) = H2 at s2 g2 ⊢
      have ez := skeys_of perm sorted
      subst ez
      refine ⟨pL, rfl, ⟨_, SqL.of g2⟩, fun C2 hC2 => ?_⟩
      have hsl : (skeys es).length = es.length := by rw [(skeys_perm es).length_eq, List.length_map]
      refine lc_rel (R := fun v k H => ∃ f, FdV K H v f ∧ FdOk f) (fun _ _ _ _ t ⟨f, z, o⟩ => ⟨f, z.ts t, o⟩) (skeys es) walk_list (by rw [List.length_map, List.length_map]) (by omega) hC2 (fun H' s => SqL.of (s _ _ g2)) ?_ ?_
      · rintro i x k H' H'' Q' Z hk s3 _ ⟨rfl, hx3⟩ q'
        rw [List.map_map, List.getElem?_map, hk] at hx3
        obtain rfl : V.int (k : Nat) = x := Option.some.inj hx3
        have hmem : k ∈ es.map (·.1) := (skeys_perm es).mem_iff.mp (List.mem_of_getElem? hk)
        obtain ⟨e, he, rfl⟩ := List.mem_map.mp hmem
        obtain ⟨g, hg⟩ := look_has (es := es) (n := e.1) (f := e.2) he
        rcases look_get (n := e.1) hpp with ⟨_, h0⟩ | ⟨v, f, hv, hf, hfd⟩
        · rw [h0] at hg; cases hg
        refine ⟨rfl, yesI ⟨_, rfl, _, rfl, D, v, rfl, .inl ⟨kvs, nkey e.1, .inl (s3 _ _ (s2 _ _ (s1 _ _ hD))), rfl, hv.symm⟩, ?_⟩⟩
        exact q' v H'' (Same.refl _) ⟨f, hfd.ts (.of ((s1.trans s2).trans s3)), okE.fd _ (look_mem hf)⟩
      intro us H3 s3 hC3 hus
      obtain ⟨gs, hg1, hg2⟩ : ∃ gs, FdsV K H3 us gs ∧ ∀ f ∈ gs, FdOk f := by
        clear q hC3
        generalize skeys es = ks at hus
        induction hus with
        | nil => exact ⟨[], .nil, fun _ m => nomatch m⟩
        | cons h _ ih =>
          obtain ⟨f, hf, of⟩ := h
          obtain ⟨gs, i1, i2⟩ := ih
          exact ⟨f :: gs, .cons hf i1, fun g m => by rcases List.mem_cons.mp m with z | m; · rw [z]; exact of
                                                     · exact i2 g m⟩
      have hul := p_len hus
      have hgl := p_len hg1
      refine ⟨C, C2, ys, us, rfl, rfl, s3 _ _ (s2 _ _ hC1), hC3, by rw [sizeLine_eq]; omega, fun so hso => ?_⟩
      have s4 := Same.new (o := .lst (ys ++ us)) hso
      have sA := (s1.trans s2).trans s3
      refine ⟨_, _, so, _, F ++ gs, rfl, sA.trans s4, sA.free hso, upd_same, p_app (FdsV.ts hys (.of ((s2.trans s3).trans s4))) (hg1.ts (.of s4)), fun f m => ?_, by rw [List.length_append]; omega⟩
      rcases List.mem_append.mp m with m | m
      · exact okF f m
      · exact hg2 f m
    · rintro σ H1 ⟨v4, v5, so, ys, gs, rfl, s1, hso0, gso, hys, okg, hgl⟩
      have P1 := hp.keep s1
      have nso : so ≠ p := Ne.symm (hp.ne hso0)
      have nDp : D ≠ p := fun z => by obtain ⟨zs, hz⟩ := hp.some.1; rw [z, hz] at hD; cases hD
      refine ⟨by show 0 ≤ sizeLine; decide, fun L hL => ?_⟩
      have s2 := Same.new (o := .lst []) hL
      have gL2 : upd H1 L (.lst []) L = some (.lst []) := upd_same
      have P2 := P1.keep s2
      have nLp : L ≠ p := Ne.symm (P1.ne hL)
      have nLc := P1.nec hL
      have nLso : L ≠ so := fun z => by rw [z, gso] at hL; cases hL
      have gso2 := s2 _ _ gso
      have hys2 := hys.ts (.of s2)
      have sB := s1.trans s2
      generalize upd H1 L (.lst []) = H2 at s2 gL2 P2 gso2 hys2 sB ⊢
      refine ⟨_, rfl, by show 6 ≤ sizeLine; decide, fun l hl => pick_new P2 hl (by simp) (by show 6 ≤ 1000; decide) (by omega) fun x H3 hx3 d3 => ?_⟩
      obtain ⟨k, rfl, hk⟩ := many_of hx3
      refine ⟨_, rfl, by omega, by omega, ?_⟩
      rw [Int.toNat_natCast]
      have hFL : ∃ (zs : List V) (fs : List Fd), H3 L = some (.lst zs) ∧ FdsV K H3 zs fs ∧ (∀ f ∈ fs, FdOk f) ∧ fs.length = 0 := ⟨[], [], d3.but _ _ nLp gL2, .nil, fun _ m => (nomatch m), rfl⟩
      obtain ⟨zs3, fs3, gL3, hfs3, okf3, hf3⟩ := hFL
      refine for_range (lo := 0) (n := k) (fun i σ H' => ∃ (v4 v5 v7 v8 : Option V) (zs : List V) (fs : List Fd), σ = [some (.ref p), some (.ref t), some (.ref D), some (.ref so), v4, v5, some (.ref L), v7, v8] ∧ Pen H' p c (n + 1 + 200 * i) ∧ (∀ c o, c ≠ p → c ≠ L → H2 c = some o → H' c = some o) ∧ H' L = some (.lst zs) ∧ FdsV K H' zs fs ∧ (∀ f ∈ fs, FdOk f) ∧ fs.length = i)
        ⟨_, _, _, _, zs3, fs3, rfl, d3.pen.mono (by omega), fun c o n1 _ e => d3.but c o n1 e, gL3, hfs3, okf3, hf3⟩ ?_ ?_
      · rintro i σ H4 hi ⟨w4, w5, v7, v8, zs, fs, rfl, P4, b4, gL4, hfs, okf, hfl⟩
        have t24 : TS H2 H4 := fun c u z e => b4 c u (fun y => by obtain ⟨q, hq⟩ := P2.some.1; rw [y, hq] at e; have := Option.some.inj e; subst this; exact nt_lst z) (fun y => by rw [y, gL2] at e; have := Option.some.inj e; subst this; exact nt_lst z) e
        have gso4 := b4 _ _ nso (Ne.symm nLso) gso2
        have hys4 := hys2.ts t24
        refine ⟨_, rfl, p, c, _, rfl, P4, by omega, fun fv f H5 hfv hf d5 => ?_⟩
        have gL5 := d5.but _ _ nLp gL4
        have gso5 := d5.but _ _ nso gso4
        have t45 := TS.drew P4 d5
        have hys5 := hys4.ts t45
        have hfs5 := hfs.ts t45
        have hzl := p_len hfs
        -- the field
        refine ⟨fun σ' H' => ∃ (v f : _), σ' = [some (.ref p), some (.ref t), some (.ref D), some (.ref so), w4, w5, some (.ref L), some (.int (0 + (i : Nat))), some v] ∧ FdV K H' v f ∧ FdOk f ∧ Drew p c H5 H' (n + 1 + 200 * i + 150), ?_, ?_⟩
        · have idle : ∀ H', Drew p c H5 H' (n + 1 + 200 * i + 150) → ∃ (v f : _), [some (V.ref p), some (V.ref t), some (V.ref D), some (V.ref so), w4, w5, some (V.ref L), some (V.int (0 + (i : Nat))), some fv] = [some (V.ref p), some (V.ref t), some (V.ref D), some (V.ref so), w4, w5, some (V.ref L), some (V.int (0 + (i : Nat))), some v] ∧ FdV K H' v f ∧ FdOk f ∧ Drew p c H5 H' (n + 1 + 200 * i + 150) := fun H' d => ⟨fv, f, rfl, hfv.ts (TS.drew d5.pen d), hf, d⟩
          refine ⟨_, rfl, by show 0 ≤ sizeLine; decide, fun t0 ht0 => ?_⟩
          have s6 := Same.new (o := .lst []) ht0
          refine ⟨.list (gs.map fdat), .list [], .lst (SqL.of (s6 _ _ gso5)) (FdsV.dp (hys5.ts (.of s6))), .lst (SqL.of upd_same) .nil, fds_shapedL okg (by omega), rfl, _, rfl, ?_⟩
          have P6 := d5.pen.keep s6
          have gso6 := s6 _ _ gso5
          have hys6 := hys5.ts (.of s6)
          have d6 : Drew p c H5 (upd H5 t0 (.lst [])) _ := ⟨P6, But.of s6⟩
          generalize upd H5 t0 (.lst []) = H6 at s6 P6 gso6 hys6 d6 ⊢
          refine ifb (fun hne => ?_) (fun _ => ?_)
          · have hys_ne : ys ≠ [] := fun z => by
              subst z
              cases hys
              cases hne
            refine ⟨_, rfl, take_n 3 P6 (by decide) (by decide) (by omega) fun r H7 hr d7 => ?_⟩
            refine ⟨_, _, rfl, rfl, _, rfl, ifb (fun _ => ?_) (fun _ => ?_)⟩
            · have gso7 := d7.but _ _ nso gso6
              refine ⟨_, rfl, _, rfl, p, c, so, _, _, rfl, d7.pen, SqL.of gso7, nso, hys_ne, by have := p_len hys; omega, by omega, fun x H8 hx8 d8 => ?_⟩
              obtain ⟨j, hj⟩ := List.getElem?_of_mem hx8
              obtain ⟨g, hg, hgv⟩ := p_at hys6 hj
              have okg' := okg g (List.mem_of_getElem? hg)
              obtain ⟨ga, rfl, hga⟩ := (hgv.ts (TS.drew P6 d7)).ts (TS.drew d7.pen d8)
              refine ⟨_, rfl, _, _, _, _, rfl, rfl, hga, rfl, ?_⟩
              refine ⟨_, rfl, _, rfl, _, _, _, _, rfl, rfl, hga, rfl, _, rfl, _, _, _, _, rfl, rfl, hga, rfl, by show 3 ≤ sizeLine; decide, fun l2 hl2 => pick_new d8.pen hl2 (by simp) (by show 3 ≤ 1000; decide) (by omega) fun y H9 hy d9 => ?_⟩
              obtain ⟨z, rfl, hz⟩ : ∃ z : Str, y = .str z ∧ txt (.str z) 0 40 = true := by
                simp only [List.mem_cons, List.not_mem_nil, or_false] at hy
                rcases hy with h | h | h
                · exact ⟨_, h, okg'.v⟩
                · exact ⟨_, h, okg'.v⟩
                · exact ⟨"1", h, by decide +kernel⟩
              refine ⟨by show 2 ≤ sizeLine; decide, fun T1 hT1 => ?_⟩
              have s10 := Same.new (o := .tup [.str g.1, .str z]) hT1
              exact ⟨_, (g.1, z), rfl, ⟨T1, rfl, SqT.of upd_same⟩, ⟨okg'.n, hz⟩, ⟨(d9.pen.keep s10).mono (by omega), (d6.but.trans (d7.but.trans (d8.but.trans d9.but))).trans (But.of s10)⟩⟩
            · exact idle H7 ⟨d7.pen.mono (by omega), d6.but.trans d7.but⟩
          · exact idle H6 ⟨P6.mono (by omega), d6.but⟩
        · rintro σ' H6 ⟨v, g, rfl, hv, hg, d6⟩
          have gL6 := d6.but _ _ nLp gL5
          refine ⟨_, rfl, .inl ⟨rfl, _, SqL.of gL6⟩, _, rfl, L, _, _, rfl, rfl, gL6, by rw [sizeLine_eq]; omega, ?_⟩
          have tL : TS H6 (upd H6 L (.lst (zs ++ [v]))) := TS.at gL6 nt_lst
          refine ⟨_, _, _, _, zs ++ [v], fs ++ [g], rfl, (penL d6.pen nLp (Ne.symm nLc)).mono (by omega), fun c o n1 n2 e => by rw [upd_ne n2]; exact d6.but c o n1 (d5.but c o n1 (b4 c o n1 n2 e)), upd_same, p_app ((hfs5.ts (TS.drew d5.pen d6)).ts tL) (.cons (hv.ts tL) .nil), fun f m => ?_, by rw [List.length_append, hfl]; rfl⟩
          rcases List.mem_append.mp m with m | m
          · exact okf f m
          · rw [List.mem_singleton.mp m]; exact hg
      · rintro σ H4 ⟨w4, w5, v7, v8, zs, fs, rfl, P4, b4, gL4, hfs, okf, hfl⟩
        refine ⟨_, rfl, L, zs, rfl, .inl ⟨SqL.of gL4, fun u hu => ?_⟩⟩
        have s5 := Same.new (o := .tup zs) hu
        refine q u zs fs _ (SqT.of upd_same) (hfs.ts (.of s5)) okf (by omega) ⟨(P4.keep s5).mono (by omega), fun c o n e => s5 _ _ (b4 c o n (fun z => ?_) (sB _ _ e))⟩
        rw [z] at e
        rw [s1 _ _ e] at hL
        cases hL

theorem ok_law_lines_for (T : Txt K mg) : FnOk P w K mg base CX0 1 T.f_law_lines_for T.d_law_lines_for ["field", "fixed", "entries", "required"] (sp_lines_for K) := by
  refine T.F_law_lines_for.ok sc_law_lines_for (fun vs H Q E h => ?_) (fun cdv A outer s H vs Q E hr h => ?_)
  · obtain ⟨fv, t, D, F, es, f, R, rfl, _⟩ := h
    rfl
  · obtain ⟨fv, t, D, F, es, f, R, rfl, hT, ok, hF12, hE24, hf, okf, q⟩ := h
    have hud : (A.deeper (envOfC "_law_lines_for" (defScope s_law_lines_for) s.heap.objs.size T.f_law_lines_for cdv)).units + 64 < cLine := by have := hr.un; omega
    refine ⟨_, (pss_cons (ps_set (i := 4) sc_law_lines_for.nd rfl (Or.inl rfl) (pe_lst (pa_cons (pe_op op_catT (pe_tup (pa_cons pe_str pa_nil)) (pv 0)) pa_nil)))
      (pss_cons (ps_for PassesOwn.never rfl (pi_enumT rfl T.z_enumerate (pa_cons (pv 1) pa_nil)) (pg_tup rfl (pgs_cons (pg_name (i := 5) sc_law_lines_for.nd rfl (Or.inl rfl)) (pgs_cons (pg_name (i := 6) sc_law_lines_for.nd rfl (Or.inl rfl)) pgs_nil)))
        (pss_one (ps_set (i := 4) sc_law_lines_for.nd rfl (Or.inl rfl) (pe_op op_cat (pe_op op_cat (pv 4) (pe_op op_rep (pe_lst (pa_cons (pe_tup (pa_cons pe_str (pa_cons (pv 5) pa_nil))) pa_nil)) (pe_callTy call_int1 rfl T.z_int boot_int (pa_cons (pe_cmpR (op_eqD hud) (pv 6) (pv 0) (nomark _)) pa_nil)))) (pe_op op_rep (pe_lst (pa_cons (pe_tup (pa_cons pe_str (pa_cons (pv 5) (pa_cons (pe_ix ix_tup (pv 0) pe_int (fun _ _ => rfl)) pa_nil)))) pa_nil)) (pe_callTy call_int1 rfl T.z_int boot_int (pa_cons (pe_cmpR op_eq (pe_ix ix_tup (pv 6) pe_int (fun _ _ => rfl)) (pe_ix ix_tup (pv 0) pe_int (fun _ _ => rfl)) (nomark _)) pa_nil)))))))
      (pss_cons (ps_lock (ps_for PassesOwn.never rfl (pi_keys (pv 2)) (pg_name (i := 7) sc_law_lines_for.nd rfl (Or.inl rfl))
        (pss_cons (ps_set (i := 6) sc_law_lines_for.nd rfl (Or.inl rfl) (pe_dget (hu_of hr) (pv 2) (pv 7) (fun _ _ => rfl)))
      (pss_one (ps_if (PW.pt (pw_and (pt_cmpR op_lt (pv 7) (pv 3) (nomark _)) (pw_and1 (pt_cmpR op_eq (pe_ix ix_tup (pv 6) pe_int (fun _ _ => rfl)) (pe_ix ix_tup (pv 0) pe_int (fun _ _ => rfl)) (nomark _))))) (pss_one (ps_set (i := 4) sc_law_lines_for.nd rfl (Or.inl rfl) (pe_op op_cat (pe_op op_cat (pv 4) (pe_op op_rep (pe_lst (pa_cons (pe_tup (pa_cons pe_str (pa_cons (pv 7) pa_nil))) pa_nil)) (pe_callTy call_int1 rfl T.z_int boot_int (pa_cons (pe_cmpR (op_eqD hud) (pv 6) (pv 0) (nomark _)) pa_nil)))) (pe_lst (pa_cons (pe_tup (pa_cons pe_str (pa_cons (pv 7) (pa_cons (pe_ix ix_tup (pv 0) pe_int (fun _ _ => rfl)) pa_nil)))) pa_nil))))) pss_nil)))))
      (pss_one (ps_ret (pv 4)))))), ?_⟩
    obtain ⟨fa, rfl, hfa⟩ := id hf
    obtain ⟨⟨xs, hx, hxs⟩, kvs, hD, hpp⟩ := id hT
    have hxl := p_len hxs
    have hkl := p_len hpp
    have kb : ∀ (b : Bool) (x : V), -(2 ^ 63) ≤ (if b then (1 : Int) else 0) ∧ (if b then (1 : Int) else 0) < 2 ^ 63 ∧ [x].length * (if b then (1 : Int) else 0).toNat ≤ sizeLine := fun b x => by
      cases b
      · exact ⟨by decide, by decide, by show 1 * 0 ≤ sizeLine; decide⟩
      · exact ⟨by decide, by decide, by show 1 * 1 ≤ sizeLine; decide⟩
    -- found
    refine ⟨by show 1 ≤ sizeLine; decide, fun T1 hT1 => ?_⟩
    have s1 := Same.new (o := .tup [.str "out"]) hT1
    have e1 : SqT K (upd H T1 (.tup [.str "out"])) T1 [.str "out"] := SqT.of upd_same
    generalize upd H T1 (.tup [.str "out"]) = H1 at s1 e1 ⊢
    refine ⟨_, rfl, T1, fa, _, _, rfl, rfl, e1, s1.tup hfa, fun z => (nomatch z), by show 1 + 2 ≤ sizeLine; decide, fun z => (nomatch z), fun _ T2 hT2 => ?_⟩
    have s2 := Same.new (o := .tup ([.str "out"] ++ [.str f.1, .str f.2])) hT2
    have e2 : LnV K (upd H1 T2 (.tup ([.str "out"] ++ [.str f.1, .str f.2]))) (.ref T2) (.out f.1 f.2) := ⟨T2, rfl, SqT.of upd_same⟩
    generalize upd H1 T2 (.tup ([.str "out"] ++ [.str f.1, .str f.2])) = H2 at s2 e2 ⊢
    refine ⟨by show 1 ≤ sizeLine; decide, fun L hL => ?_⟩
    have s3 := Same.new (o := .lst [.ref T2]) hL
    have gL : upd H2 L (.lst [.ref T2]) L = some (.lst [.ref T2]) := upd_same
    have hL0 := (s1.trans s2).free hL
    have sA := (s1.trans s2).trans s3
    have e3 := e2.keep s3
    generalize upd H2 L (.lst [.ref T2]) = H3 at s3 gL sA e3 ⊢
    -- the fixed fields
    refine ⟨_, rfl, t, xs, rfl, sA.tup hx, for_it walk_enumT (fun i σ H' => ∃ (v5 v6 : Option V) (a : Addr) (ys : List V), σ = [some (.ref fa), some (.ref t), some (.ref D), some (.int (R : Nat)), some (.ref a), v5, v6, none] ∧ Same H H' ∧ H a = none ∧ H' a = some (.lst ys) ∧ ys ≠ [] ∧ ys.length ≤ 1 + 2 * i ∧ LLs K F es f R H' ys)
      ⟨_, _, L, _, rfl, sA, hL0, gL, by simp, by show 1 ≤ 1 + 2 * 0; decide, LLs.one e3 (LL.out ok okf)⟩ (fun i σ H' _ ⟨_, _, _, _, _, s, _⟩ => s.tup hx) ?_ ?_⟩
    · rintro i x σ H4 H5 hi ⟨v5, v6, a, ys, rfl, s4, ha0, ga, hne, hyl, hys⟩ ⟨T0, a0, b0, rfl, hT0, rfl, e0, hb⟩
      obtain rfl : V.int (i : Nat) = a0 := Option.some.inj e0
      have s5 := Same.new (o := .tup [.int (i : Nat), b0]) hT0
      have e5 : SqT K (upd H4 T0 (.tup [.int (i : Nat), b0])) T0 [.int (i : Nat), b0] := SqT.of upd_same
      generalize upd H4 T0 (.tup [.int (i : Nat), b0]) = H5 at s5 e5 ⊢
      obtain ⟨g, hg, hgv⟩ := p_at hxs hb
      have okg := ok.ff g (List.mem_of_getElem? hg)
      have hgv5 := hgv.ts (.of (s4.trans s5))
      obtain ⟨gr, rfl, hgr⟩ := id hgv5
      have hf5 := hf.ts (.of (s4.trans s5))
      have hfa5 := (s4.trans s5).tup hfa
      refine ⟨T0, _, rfl, e5, rfl, _, _, rfl, _, _, rfl, rfl, ?_⟩
      refine ⟨_, rfl, _, rfl, by show 2 ≤ sizeLine; decide, fun T1 hT1 => ?_⟩
      have s6 := Same.new (o := .tup [.str "fixed", .int (i : Nat)]) hT1
      have e6 : LnV K (upd H5 T1 (.tup [.str "fixed", .int (i : Nat)])) (.ref T1) (.fix1 i) := ⟨T1, rfl, SqT.of upd_same⟩
      generalize upd H5 T1 (.tup [.str "fixed", .int (i : Nat)]) = H6 at s6 e6 ⊢
      refine ⟨by show 1 ≤ sizeLine; decide, fun L1 hL1 => ?_⟩
      have s7 := Same.new (o := .lst [.ref T1]) hL1
      have g7 : upd H6 L1 (.lst [.ref T1]) L1 = some (.lst [.ref T1]) := upd_same
      have e7 := e6.keep s7
      have s57 := s6.trans s7
      generalize upd H6 L1 (.lst [.ref T1]) = H7 at s7 g7 e7 s57 ⊢
      refine ⟨_, rfl, _, rfl, fdat g, fdat f, (hgv5.ts (.of s57)).dp, (hf5.ts (.of s57)).dp, fd_shaped okg, fd_shaped okf, ?_⟩
      rw [fd_eqv]
      refine .inr ⟨_, rfl, L1, _, _, rfl, rfl, g7, (kb _ (.ref T1)).1, (kb _ (.ref T1)).2.1, (kb _ (.ref T1)).2.2, fun p8 hp8 => ?_⟩
      have s8 := Same.new (o := .lst (List.replicate (if decide (g = f) then (1 : Int) else 0).toNat [V.ref T1]).flatten) hp8
      have g8 : upd H7 p8 (.lst (List.replicate (if decide (g = f) then (1 : Int) else 0).toNat [V.ref T1]).flatten) p8 = some (.lst (List.replicate (if decide (g = f) then (1 : Int) else 0).toNat [V.ref T1]).flatten) := upd_same
      have l8 := repB_len (ys := [V.ref T1]) (decide (g = f))
      have r8 : LLs K F es f R H7 (List.replicate (if decide (g = f) then (1 : Int) else 0).toNat [V.ref T1]).flatten := LLs.rep _ fun z => LLs.one e7 (LL.fix1 ok okf (by rw [← of_decide_eq_true z]; exact hg))
      generalize (List.replicate (if decide (g = f) then (1 : Int) else 0).toNat [V.ref T1]).flatten = z8 at s8 g8 l8 r8 ⊢
      have r8 := r8.ts (.of s8)
      generalize upd H7 p8 (.lst z8) = H8 at s8 g8 r8 ⊢
      have s58 := s57.trans s8
      have ga8 := s58 _ _ (s5 _ _ ga)
      have l8' : z8.length ≤ 1 := l8
      refine ⟨a, p8, _, _, rfl, rfl, ga8, g8, by rw [sizeLine_eq]; omega, fun p9 hp9 => ?_⟩
      have s9 := Same.new (o := .lst (ys ++ z8)) hp9
      have g9 : upd H8 p9 (.lst (ys ++ z8)) p9 = some (.lst (ys ++ z8)) := upd_same
      have r9 : LLs K F es f R (upd H8 p9 (.lst (ys ++ z8))) (ys ++ z8) := (hys.ts (.of ((s5.trans s58).trans s9))).app (r8.ts (.of s9))
      generalize upd H8 p9 (.lst (ys ++ z8)) = H9 at s9 g9 r9 ⊢
      have s59 := s58.trans s9
      refine ⟨_, rfl, _, rfl, _, _, _, _, rfl, rfl, s59.tup hfa5, rfl, by show 3 ≤ sizeLine; decide, fun T2 hT2 => ?_⟩
      have sB := Same.new (o := .tup [.str "fixed", .int (i : Nat), .str f.2]) hT2
      have eB : LnV K (upd H9 T2 (.tup [.str "fixed", .int (i : Nat), .str f.2])) (.ref T2) (.fix2 i f.2) := ⟨T2, rfl, SqT.of upd_same⟩
      generalize upd H9 T2 (.tup [.str "fixed", .int (i : Nat), .str f.2]) = HB at sB eB ⊢
      refine ⟨by show 1 ≤ sizeLine; decide, fun L2 hL2 => ?_⟩
      have sC := Same.new (o := .lst [.ref T2]) hL2
      have gC : upd HB L2 (.lst [.ref T2]) L2 = some (.lst [.ref T2]) := upd_same
      have eC := eB.keep sC
      generalize upd HB L2 (.lst [.ref T2]) = HC at sC gC eC ⊢
      have s9C := sB.trans sC
      have s5C := s59.trans s9C
      refine ⟨_, rfl, _, _, _, _, rfl, rfl, s5C.tup hgr, rfl, _, rfl, _, _, _, _, rfl, rfl, s5C.tup hfa5, rfl, rfl, .inr ⟨_, rfl, L2, _, _, rfl, rfl, gC, (kb _ (.ref T2)).1, (kb _ (.ref T2)).2.1, (kb _ (.ref T2)).2.2, fun pD hpD => ?_⟩⟩
      have sD := Same.new (o := .lst (List.replicate (if decide (V.str g.1 = V.str f.1) then (1 : Int) else 0).toNat [V.ref T2]).flatten) hpD
      have gD : upd HC pD (.lst (List.replicate (if decide (V.str g.1 = V.str f.1) then (1 : Int) else 0).toNat [V.ref T2]).flatten) pD = some (.lst (List.replicate (if decide (V.str g.1 = V.str f.1) then (1 : Int) else 0).toNat [V.ref T2]).flatten) := upd_same
      have lD := repB_len (ys := [V.ref T2]) (decide (V.str g.1 = V.str f.1))
      have rD : LLs K F es f R HC (List.replicate (if decide (V.str g.1 = V.str f.1) then (1 : Int) else 0).toNat [V.ref T2]).flatten := LLs.rep _ fun z => LLs.one eC (LL.fix2 ok okf hg (V.str.inj (of_decide_eq_true z)))
      generalize (List.replicate (if decide (V.str g.1 = V.str f.1) then (1 : Int) else 0).toNat [V.ref T2]).flatten = zD at sD gD lD rD ⊢
      have rD := rD.ts (.of sD)
      generalize upd HC pD (.lst zD) = HD at sD gD rD ⊢
      have lD' : zD.length ≤ 1 := lD
      have l9 : (ys ++ z8).length ≤ 2 + 2 * i := by rw [List.length_append]; omega
      refine ⟨p9, pD, _, _, rfl, rfl, (s9C.trans sD) _ _ g9, gD, by rw [sizeLine_eq]; omega, fun pz hpz => ?_⟩
      have sZ := Same.new (o := .lst (ys ++ z8 ++ zD)) hpz
      have sAll := ((s4.trans s5).trans s5C).trans sD
      exact ⟨_, _, pz, _, rfl, sAll.trans sZ, sAll.free hpz, upd_same, fun z => hne (List.append_eq_nil_iff.mp (List.append_eq_nil_iff.mp z).1).1, by rw [List.length_append]; omega, (r9.ts (.of ((s9C.trans sD).trans sZ))).app (rD.ts (.of sZ))⟩
    · rintro σ H4 ⟨v5, v6, a, ys, rfl, s4, ha0, ga, hne, hyl, hys⟩
      have gD := s4 _ _ hD
      refine ⟨D, .dK kvs, gD, True.intro, fun od => ?_⟩
      have tl : TS H4 (upd H4 D (.frz od (.dK kvs))) := TS.at gD nt_dK
      have naD : ∀ {c : Addr}, H c = none → c ≠ D := fun h z => by rw [z, hD] at h; cases h
      have fr : ∀ {H' : Hp} {c : Addr}, Same (upd H4 D (.frz od (.dK kvs))) H' → H' c = none → H c = none := fun {H' c} s h => by
        have h1 := s.free h
        by_cases z : c = D
        · rw [z, upd_same] at h1; cases h1
        · rw [upd_ne z] at h1; exact s4.free h1
      refine ⟨_, rfl, D, od, rfl, .inl ⟨kvs, upd_same, for_it walk_keys (fun i σ H' => ∃ (v5 v6 v7 : Option V) (a : Addr) (ys : List V), σ = [some (.ref fa), some (.ref t), some (.ref D), some (.int (R : Nat)), some (.ref a), v5, v6, v7] ∧ Same (upd H4 D (.frz od (.dK kvs))) H' ∧ H a = none ∧ H' a = some (.lst ys) ∧ ys ≠ [] ∧ ys.length ≤ 25 + 2 * i ∧ LLs K F es f R H' ys)
        ⟨_, _, _, a, ys, rfl, Same.refl _, ha0, by rw [upd_ne (naD ha0)]; exact ga, hne, by omega, hys.ts tl⟩ (fun i σ H' _ ⟨_, _, _, _, _, _, s, _⟩ => s _ _ upd_same) ?_ ?_⟩⟩
      · rintro i x σ H5 H6 hi ⟨v5, v6, v7, a, ys, rfl, s5, ha0, ga, hne, hyl, hys⟩ ⟨rfl, ky, v0, hkv, rfl⟩
        obtain ⟨ej, hej, hpe⟩ := p_at hpp hkv
        obtain ⟨n, g⟩ := ej
        have hmem := List.mem_of_getElem? hej
        have hv := val_mem (keys_nd hpp ok.nd) (List.mem_of_getElem? hkv)
        obtain ⟨rfl, hgv⟩ : ky = nkey n ∧ FdV K H v0 g := hpe
        have okg := ok.ef _ hmem
        have tA : TS H H6 := (TS.of s4).trans (tl.trans (.of s5))
        have hgv5 := hgv.ts tA
        obtain ⟨gr, rfl, hgr⟩ := id hgv5
        have hf5 := hf.ts tA
        have hfa5 := tA.tup hfa
        have ek : kV (nkey n) = V.int (n : Nat) := rfl
        generalize kV (nkey n) = vn at ek ⊢
        subst ek
        refine ⟨_, rfl, _, rfl, D, .ref gr, rfl, .inl ⟨kvs, nkey n, .inr ⟨od, s5 _ _ upd_same⟩, rfl, hv.symm⟩, ?_⟩
        refine ⟨_, rfl, _, rfl, _, _, rfl, rfl, _, rfl, ifb (fun hlt => ?_) (fun _ => ifF rfl ?_)⟩
        · have hnR : n < R := by have := of_decide_eq_true hlt; omega
          refine ⟨_, rfl, _, _, _, _, rfl, rfl, hgr, rfl, _, rfl, _, _, _, _, rfl, rfl, hfa5, rfl, rfl, _, rfl, ifb (fun hn => ?_) (fun _ => ?_)⟩
          · have hnm : g.1 = f.1 := V.str.inj (of_decide_eq_true hn)
            refine ⟨_, rfl, _, rfl, by show 2 ≤ sizeLine; decide, fun T1 hT1 => ?_⟩
            have s7 := Same.new (o := .tup [.str "entry", .int (n : Nat)]) hT1
            have e7 : LnV K (upd H6 T1 (.tup [.str "entry", .int (n : Nat)])) (.ref T1) (.ent1 n) := ⟨T1, rfl, SqT.of upd_same⟩
            generalize upd H6 T1 (.tup [.str "entry", .int (n : Nat)]) = H7 at s7 e7 ⊢
            refine ⟨by show 1 ≤ sizeLine; decide, fun L1 hL1 => ?_⟩
            have s8 := Same.new (o := .lst [.ref T1]) hL1
            have g8 : upd H7 L1 (.lst [.ref T1]) L1 = some (.lst [.ref T1]) := upd_same
            have e8 := e7.keep s8
            have s68 := s7.trans s8
            generalize upd H7 L1 (.lst [.ref T1]) = H8 at s8 g8 e8 s68 ⊢
            refine ⟨_, rfl, _, rfl, fdat g, fdat f, (hgv5.ts (.of s68)).dp, (hf5.ts (.of s68)).dp, fd_shaped okg, fd_shaped okf, ?_⟩
            rw [fd_eqv]
            refine .inr ⟨_, rfl, L1, _, _, rfl, rfl, g8, (kb _ (.ref T1)).1, (kb _ (.ref T1)).2.1, (kb _ (.ref T1)).2.2, fun p8 hp8 => ?_⟩
            have s9 := Same.new (o := .lst (List.replicate (if decide (g = f) then (1 : Int) else 0).toNat [V.ref T1]).flatten) hp8
            have g9 : upd H8 p8 (.lst (List.replicate (if decide (g = f) then (1 : Int) else 0).toNat [V.ref T1]).flatten) p8 = some (.lst (List.replicate (if decide (g = f) then (1 : Int) else 0).toNat [V.ref T1]).flatten) := upd_same
            have l9 := repB_len (ys := [V.ref T1]) (decide (g = f))
            have r9 : LLs K F es f R H8 (List.replicate (if decide (g = f) then (1 : Int) else 0).toNat [V.ref T1]).flatten := LLs.rep _ fun z => LLs.one e8 (LL.ent1 ok okf (by rw [← of_decide_eq_true z]; exact hmem) hnR)
            generalize (List.replicate (if decide (g = f) then (1 : Int) else 0).toNat [V.ref T1]).flatten = z9 at s9 g9 l9 r9 ⊢
            have r9 := r9.ts (.of s9)
            generalize upd H8 p8 (.lst z9) = H9 at s9 g9 r9 ⊢
            have s69 := s68.trans s9
            have l9' : z9.length ≤ 1 := l9
            have hi' : i < kvs.length := hi
            refine ⟨a, p8, _, _, rfl, rfl, s69 _ _ ga, g9, by rw [sizeLine_eq]; omega, fun pA hpA => ?_⟩
            have sA := Same.new (o := .lst (ys ++ z9)) hpA
            have gA : upd H9 pA (.lst (ys ++ z9)) pA = some (.lst (ys ++ z9)) := upd_same
            have rA : LLs K F es f R (upd H9 pA (.lst (ys ++ z9))) (ys ++ z9) := (hys.ts (.of (s69.trans sA))).app (r9.ts (.of sA))
            generalize upd H9 pA (.lst (ys ++ z9)) = HA at sA gA rA ⊢
            have s6A := s69.trans sA
            refine ⟨_, rfl, _, rfl, _, _, _, _, rfl, rfl, s6A.tup hfa5, rfl, by show 3 ≤ sizeLine; decide, fun T2 hT2 => ?_⟩
            have sB := Same.new (o := .tup [.str "entry", .int (n : Nat), .str f.2]) hT2
            have eB : LnV K (upd HA T2 (.tup [.str "entry", .int (n : Nat), .str f.2])) (.ref T2) (.ent2 n f.2) := ⟨T2, rfl, SqT.of upd_same⟩
            generalize upd HA T2 (.tup [.str "entry", .int (n : Nat), .str f.2]) = HB at sB eB ⊢
            refine ⟨by show 1 ≤ sizeLine; decide, fun L2 hL2 => ?_⟩
            have sC := Same.new (o := .lst [.ref T2]) hL2
            have gC : upd HB L2 (.lst [.ref T2]) L2 = some (.lst [.ref T2]) := upd_same
            have eC := eB.keep sC
            generalize upd HB L2 (.lst [.ref T2]) = HC at sC gC eC ⊢
            have sAC := sB.trans sC
            have s6C := s6A.trans sAC
            have l10 : (ys ++ z9).length ≤ 26 + 2 * i := by rw [List.length_append]; omega
            refine ⟨pA, L2, _, _, rfl, rfl, sAC _ _ gA, gC, by rw [sizeLine_eq]; show (ys ++ z9).length + 1 ≤ _; omega, fun pz hpz => ?_⟩
            have sZ := Same.new (o := .lst (ys ++ z9 ++ [V.ref T2])) hpz
            exact ⟨_, _, _, pz, _, rfl, (s5.trans s6C).trans sZ, fr (s5.trans s6C) hpz, upd_same, fun z => hne (List.append_eq_nil_iff.mp (List.append_eq_nil_iff.mp z).1).1, by rw [List.length_append]; show (ys ++ z9).length + 1 ≤ _; omega, (rA.ts (.of (sAC.trans sZ))).app (LLs.one (eC.keep sZ) (LL.ent2 ok okf hmem hnm hnR))⟩
          · exact ⟨_, _, _, a, ys, rfl, s5, ha0, ga, hne, by omega, hys⟩
        · exact ⟨_, _, _, a, ys, rfl, s5, ha0, ga, hne, by omega, hys⟩
      · rintro σ H5 ⟨v5, v6, v7, a, ys, rfl, s5, ha0, ga, hne, hyl, hys⟩
        have sV := unlock gD s5
        have gF := s5 _ _ upd_same
        have tU : TS H5 (upd H5 D (.dK kvs)) := fun c u z e => by
          by_cases y : c = D
          · rw [y, gF] at e
            have := Option.some.inj e
            subst this
            rcases z with ⟨xs, z⟩ | ⟨o', xs, z⟩ <;> cases z
          · rw [upd_ne y]; exact e
        refine ⟨gF, _, rfl, q a ys _ (s4.trans sV) ha0 (by rw [upd_ne (naD ha0)]; exact ga) hne (by omega) (hys.ts tU)⟩

theorem ok_law_draw_lines_for (T : Txt K mg) : FnOk P w K mg base CX0 4 T.f_law_draw_lines_for T.d_law_draw_lines_for ["pen", "fixed", "entries", "fields", "required"] (sp_draw_lines_for K) := by
  refine T.F_law_draw_lines_for.ok sc_law_draw_lines_for (fun vs H Q E h => ?_) (fun cdv A outer s H vs Q E hr h => ?_)
  · obtain ⟨p, c, t, D, u, n, F, es, xs, fs, R, rfl, _⟩ := h
    rfl
  · obtain ⟨p, c, t, D, u, n, F, es, xs, fs, R, rfl, hp, hn, hT, ok, hF12, hE24, hu, hfs, okf, hf16, q⟩ := h
    refine ⟨_, (pss_one (ps_ret (pe_callTy call_tuple_of rfl T.z_tuple boot_tuple (pa_cons (pe_lc (own := [("field", 5)]) (g := (gName 5)) (tt := tYes)  rfl sc_law_draw_lines_for.nd (pi_tup (pv 3)) (blkOk_by (own := [("field", 5)]) (N := ["pen", "fixed", "entries", "fields", "required", "field"]) (sc := defScope s_law_draw_lines_for) (by decide +kernel)) (fun _ _ _ _ _ => (pg_name (i := 5) sc_law_draw_lines_for.nd rfl (Or.inl rfl))) (fun _ _ _ _ _ => pts_nil) (fun _ _ _ _ _ => (pe_call (ok_law_one_of T) (hr.mono (by decide)) rfl T.g_law_one_of T.F_law_one_of.kp T.b_law_one_of .nil pass0 (pa_cons (pv 0) (pa_cons (pe_call (ok_law_lines_for T) (hr.mono (by decide)) rfl T.g_law_lines_for T.F_law_lines_for.kp T.b_law_lines_for .nil pass0 (pa_cons (pv 5) (pa_cons (pv 1) (pa_cons (pv 2) (pa_cons (pv 4) pa_nil))))) pa_nil))))) pa_nil)))), ?_⟩
    have hul := p_len hfs
    obtain ⟨⟨fx, hx, hxs⟩, kvs, hD, hpp⟩ := id hT
    have nDp : D ≠ p := fun z => by obtain ⟨zs, hz⟩ := hp.some.1; rw [z, hz] at hD; cases hD
    refine ⟨_, rfl, u, rfl, ⟨xs, hu⟩, fun C hC => ?_⟩
    refine lc_gen walk_tup (fun i ys H' => Drew p c H H' (n + i) ∧ ∃ ls, Paired (fun v l => LnV K H' v l) ys ls ∧ LLL F es R ls (fs.take i)) (by omega) ⟨⟨(hp.new hC).mono (by omega), But.new hC⟩, [], .nil, .nil⟩ (fun i ys H' h => (TS.drew hp h.1).tup hu) ?_ ?_
    · rintro i ys x H' H'' Q' Z hi hly gC ⟨dr, ls, hls, hLL⟩ ⟨rfl, hx1⟩ q'
      have nCp : C ≠ p := Ne.symm (hp.ne hC)
      have ncC := hp.nec hC
      obtain ⟨f, hf, hfv⟩ := p_at hfs hx1
      have t1 := TS.drew hp dr
      have hT1 : TabV K H'' t D F es := ⟨⟨fx, t1.tup hx, hxs.ts t1⟩, kvs, dr.but _ _ nDp hD, pmap (fun _ _ z => z.ts t1) hpp⟩
      refine ⟨rfl, yesI ⟨_, rfl, _, rfl, _, rfl, _, rfl, _, rfl, x, t, D, F, es, f, R, rfl, hT1, ok, hF12, hE24, hfv.ts t1, okf f (List.mem_of_getElem? hf), fun a ys0 H4 s4 ha ga hne hl hLs => ?_⟩⟩
      have P4 := dr.pen.keep s4
      refine ⟨p, c, a, _, ys0, rfl, P4, SqL.of ga, Ne.symm (dr.pen.ne ha), hne, by omega, by omega, fun y H5 hy d5 => ?_⟩
      obtain ⟨l, hl1, hl2⟩ := hLs y hy
      have t5 := TS.drew P4 d5
      have g5 := d5.but _ _ nCp (s4 _ _ gC)
      have tC : TS H5 (upd H5 C (.lst (ys ++ [y]))) := TS.at g5 nt_lst
      refine q' y H5 g5 ⟨⟨(d5.pen.upd (Ne.symm nCp) ncC).mono (by omega), (dr.but.trans ((But.of s4).trans d5.but)).put hC⟩, ls ++ [l], p_app (pmap (fun _ _ z => LnV.ts z ((TS.of s4).trans (t5.trans tC))) hls) (.cons (LnV.ts hl1 (t5.trans tC)) .nil), ?_⟩
      rw [List.take_add_one, hf]
      exact p_app hLL (.cons hl2 .nil)
    · rintro ys H2 hly gC ⟨dr, ls, hls, hLL⟩
      rw [List.take_of_length_le (by omega)] at hLL
      refine ⟨C, ys, rfl, .inl ⟨SqL.of gC, fun T3 hT3 => ?_⟩⟩
      have s5 := Same.new (o := .tup ys) hT3
      exact q T3 ys ls _ (SqT.of upd_same) (lns_of_tris (pmap (fun _ _ z => LnV.keep s5 z) hls)) hLL ⟨(dr.pen.keep s5).mono (by omega), dr.but.trans (But.of s5)⟩

theorem ok_law (T : Txt K mg) : FnOk P w K mg base CX0 12 T.f_law T.d_law ["script"] (spLaw K) := by
  refine T.F_law.ok sc_law (fun vs H Q E h => ?_) (fun cdv A outer s H vs Q E hr h => ?_)
  · obtain ⟨a, ns, rfl, _⟩ := h
    rfl
  · obtain ⟨a, ns, rfl, hS, hl, q⟩ := h
    have hud : (A.deeper (envOfC "law" (defScope s_law) s.heap.objs.size T.f_law cdv)).units + 64 < cLine := by have := hr.un; omega
    have hu70 : (A.deeper (envOfC "law" (defScope s_law) s.heap.objs.size T.f_law cdv)).units + 70 < cLine := by have := hr.un; omega
    refine ⟨_, (pss_cons (ps_set (i := 1) sc_law.nd rfl (Or.inr rfl) (pe_call (ok_law_open T) (hr.mono (by decide)) rfl T.g_law_open T.F_law_open.kp T.b_law_open .nil pass0 (pa_cons (pv 0) pa_nil)))
      (pss_cons (ps_for PassesOwn.never rfl (pi_range1 rfl T.z_range (pa_cons pe_int pa_nil)) (pg_name (i := 2) sc_law.nd rfl (Or.inl rfl))
        (pss_cons (ps_asg (pe_tup (pa_cons (pe_call (ok_law_draw_setting T) (hr.mono (by decide)) rfl T.g_law_draw_setting T.F_law_draw_setting.kp T.b_law_draw_setting .nil pass0 (pa_cons (pv 1) pa_nil)) (pa_cons (pe_callTy (call_dictP rfl) rfl T.z_dict boot_dict (pa_cons (pe_slice sl_list (pe_callTy (call_listVI rfl) rfl T.z_list boot_list (pa_cons (pe_bm0 PySem.F.plainAttrs_dict PySem.F.slot_dict_items PySem.F.type_dict_items mt_itemsK (pe_call (ok_law_draw_entries T) (hr.mono (by decide)) rfl T.g_law_draw_entries T.F_law_draw_entries.kp T.b_law_draw_entries .nil pass0 (pa_cons (pv 1) pa_nil))) pa_nil)) po_none (po_some pe_int)) pa_nil)) pa_nil))) (pg_tup rfl (pgs_cons (pg_name (i := 3) sc_law.nd rfl (Or.inr rfl)) (pgs_cons (pg_name (i := 4) sc_law.nd rfl (Or.inr rfl)) pgs_nil))))
      (Evl.pss_cut (ps_set (i := 5) sc_law.nd rfl (Or.inl rfl) (pe_call (ok_law_draw_saying T) (hr.mono (by decide)) rfl T.g_law_draw_saying T.F_law_draw_saying.kp T.b_law_draw_saying .nil pass0 (pa_cons (pv 1) (pa_cons (pe_ix ix_tup (pv 3) pe_int (fun _ _ => rfl)) (pa_cons (pv 4) pa_nil)))))
      (Evl.pss_cut (ps_asg (pe_call (ok_shortest T) (hr.mono (by decide)) rfl T.g_shortest T.F_shortest.kp T.b_shortest .nil pass0 (pa_cons (pv 3) (pa_cons (pv 4) (pa_cons (pv 5) pa_nil)))) (pg_tup rfl (pgs_cons (pg_name (i := 6) sc_law.nd rfl (Or.inl rfl)) (pgs_cons (pg_name (i := 7) sc_law.nd rfl (Or.inl rfl)) (pgs_cons (pg_name (i := 8) sc_law.nd rfl (Or.inl rfl)) pgs_nil)))))
      (pss_cons (ps_for PassesOwn.never rfl (pi_range1 rfl T.z_range (pa_cons pe_int pa_nil)) (pg_name (i := 9) sc_law.nd rfl (Or.inl rfl))
        (Evl.pss_cut (ps_asg (pe_call (ok_law_one_of T) (hr.mono (by decide)) rfl T.g_law_one_of T.F_law_one_of.kp T.b_law_one_of .nil pass0 (pa_cons (pv 1) (pa_cons (pe_callB (call_sortedDT rfl) rfl T.z_sorted boot_sorted (pa_cons (pv 8) pa_nil)) pa_nil))) (pg_tup rfl (pgs_cons (pg_name (i := 10) sc_law.nd rfl (Or.inl rfl)) (pgs_cons (pg_name (i := 11) sc_law.nd rfl (Or.inl rfl)) pgs_nil))))
      (pss_cons (ps_set (i := 12) sc_law.nd rfl (Or.inl rfl) (pe_tup (pa_cons (pv 10) (pa_cons (pv 11) (pa_cons (pe_call (ok_law_draw_lines_for T) (hr.mono (by decide)) rfl T.g_law_draw_lines_for T.F_law_draw_lines_for.kp T.b_law_draw_lines_for .nil pass0 (pa_cons (pv 1) (pa_cons (pe_ix ix_tup (pv 3) pe_int (fun _ _ => rfl)) (pa_cons (pv 4) (pa_cons (pv 5) (pa_cons (pv 10) pa_nil)))))) pa_nil)))))
      (Evl.pss_cut (ps_if (pt_cmpR (op_neD hud) (pe_call (ok_says T) (hr.mono (by decide)) rfl T.g_says T.F_says.kp T.b_says .nil pass0 (pa_cons (pv 3) (pa_cons (pv 4) (pa_cons (pv 12) pa_nil)))) (pv 5) (nomark _)) (pss_one (ps_ret pe_bl)) pss_nil)
      (pss_one (ps_if (pt_not (pt_chain op_le op_le (pv 6) (pe_dget (hu_of hr) (pv 8) (pe_tup (pa_cons (pv 10) (pa_cons (pv 11) pa_nil))) (fun _ _ => rfl)) (pe_callB call_len rfl T.z_len boot_len (pa_cons (pe_call (ok_write_block T) (hr.mono (by decide)) rfl T.g_write_block T.F_write_block.kp T.b_write_block .nil pass0 (pa_cons (pv 12) pa_nil)) pa_nil)))) (pss_one (ps_ret pe_bl)) pss_nil))))))
      (Evl.pss_cut (ps_setLc (i := 13) (own := [("field", 14)]) (g := (gName 14)) (tt := tYes)  rfl sc_law.nd rfl rfl (sw_true rfl rfl rfl (by decide +kernel)) (pi_tup (pv 5)) (blkOk_by (own := [("field", 14)]) (N := ["script", "pen", "turn", "setting", "entries", "fields", "length", "octets", "lengths", "again", "required", "base", "block", "parts", "field", "fronts", "key", "gaps", "one", "fewer", "number", "plain"]) (sc := defScope s_law) (by decide +kernel)) (fun _ _ _ _ _ => (pg_name (i := 14) sc_law.nd rfl (Or.inl rfl))) (fun _ _ _ _ _ => pts_nil) (fun _ _ _ _ _ => (pe_ix (ixK (K := K) (r := rIxT) ix_tup) (pe_call (ok_shortest T) (hr.mono (by decide)) rfl T.g_shortest T.F_shortest.kp T.b_shortest .nil pass0 (pa_cons (pv 3) (pa_cons (pv 4) (pa_cons (pe_tup (pa_cons (pv 14) pa_nil)) pa_nil)))) pe_int (fun _ _ => rfl))))
      (Evl.pss_cut (ps_set (i := 15) sc_law.nd rfl (Or.inr rfl) (pe_ix ix_tup (pe_call (ok_shortest T) (hr.mono (by decide)) rfl T.g_shortest T.F_shortest.kp T.b_shortest .nil pass0 (pa_cons (pv 3) (pa_cons (pv 4) (pa_cons (pe_tup pa_nil) pa_nil)))) pe_int (fun _ _ => rfl)))
      (pss_cons (ps_for PassesOwn.never rfl (pi_list (pe_lst (pa_cons (pe_tup (pa_cons pe_int (pa_cons pe_int pa_nil))) (pa_cons (pe_call (ok_law_one_of T) (hr.mono (by decide)) rfl T.g_law_one_of T.F_law_one_of.kp T.b_law_one_of .nil pass0 (pa_cons (pv 1) (pa_cons (pe_callB (call_sortedDT rfl) rfl T.z_sorted boot_sorted (pa_cons (pv 8) pa_nil)) pa_nil))) (pa_cons (pe_call (ok_law_one_of T) (hr.mono (by decide)) rfl T.g_law_one_of T.F_law_one_of.kp T.b_law_one_of .nil pass0 (pa_cons (pv 1) (pa_cons (pe_callB (call_sortedDT rfl) rfl T.z_sorted boot_sorted (pa_cons (pv 8) pa_nil)) pa_nil))) pa_nil))))) (pg_name (i := 16) sc_law.nd rfl (Or.inr rfl))
        (pss_cons (ps_setLc (i := 17) (own := [("one", 18)]) (g := (gName 18)) (tt := tYes)  rfl sc_law.nd rfl rfl (sw_true rfl rfl rfl (by decide +kernel)) (pi_list (pv 13)) (blkOk_by (own := [("one", 18)]) (N := ["script", "pen", "turn", "setting", "entries", "fields", "length", "octets", "lengths", "again", "required", "base", "block", "parts", "field", "fronts", "key", "gaps", "one", "fewer", "number", "plain"]) (sc := defScope s_law) (by decide +kernel)) (fun _ _ _ _ _ => (pg_name (i := 18) sc_law.nd rfl (Or.inl rfl))) (fun _ _ _ _ _ => pts_nil) (fun _ _ _ _ _ => (pe_op op_sub (pe_dget (hu_of hr) (pv 18) (pv 16) (fun _ _ => rfl)) (pe_dget (hu_of hr) (pv 15) (pv 16) (fun _ _ => rfl)))))
      (pss_one (ps_if (pt_cmpR op_ne (pe_dget (hu_of hr) (pv 8) (pv 16) (fun _ _ => rfl)) (pe_op op_add (pe_dget (hu_of hr) (pv 15) (pv 16) (fun _ _ => rfl)) (pe_callB (cr_sum rfl) rfl T.z_sum boot_sum (pa_cons (pv 17) pa_nil))) (nomark _)) (pss_one (ps_ret pe_bl)) pss_nil))))
      (Evl.pss_cut (ps_set (i := 19) sc_law.nd rfl (Or.inl rfl) (pe_callTy (call_dictP rfl) rfl T.z_dict boot_dict (pa_cons (pe_lock (pe_lc (own := [("number", 20)]) (g := (gName 20))  rfl sc_law.nd (pi_keys (pv 4)) (blkOk_by (own := [("number", 20)]) (N := ["script", "pen", "turn", "setting", "entries", "fields", "length", "octets", "lengths", "again", "required", "base", "block", "parts", "field", "fronts", "key", "gaps", "one", "fewer", "number", "plain"]) (sc := defScope s_law) (by decide +kernel)) (fun _ _ _ _ _ => (pg_name (i := 20) sc_law.nd rfl (Or.inl rfl))) (fun _ _ _ _ _ => pts_one (pt_cmpR op_eq (pe_call (ok_law_take T) (hr.mono (by decide)) rfl T.g_law_take T.F_law_take.kp T.b_law_take .nil pass0 (pa_cons (pv 1) (pa_cons pe_int pa_nil))) pe_int (nomark _))) (fun _ _ _ _ _ => (pe_tup (pa_cons (pv 20) (pa_cons (pe_dget (hu_of hr) (pv 4) (pv 20) (fun _ _ => rfl)) pa_nil)))))) pa_nil)))
      (Evl.pss_cut (ps_if (PW.pt (pw_or (pt_cmpR op_lt (pe_ix ix_tup (pe_call (ok_shortest T) (hr.mono (by decide)) rfl T.g_shortest T.F_shortest.kp T.b_shortest .nil pass0 (pa_cons (pv 3) (pa_cons (pv 19) (pa_cons (pv 5) pa_nil)))) pe_int (fun _ _ => rfl)) (pv 6) (nomark _)) (pw_or1 (pt_cmpR op_lt (pe_ix ix_tup (pe_call (ok_shortest T) (hr.mono (by decide)) rfl T.g_shortest T.F_shortest.kp T.b_shortest .nil pass0 (pa_cons (pe_tup (pa_cons (pe_tup pa_nil) (pa_cons (pe_ix ix_tup (pv 3) pe_int (fun _ _ => rfl)) (pa_cons pe_int pa_nil)))) (pa_cons pe_dnewK (pa_cons (pv 5) pa_nil)))) pe_int (fun _ _ => rfl)) (pv 6) (nomark _))))) (pss_one (ps_ret pe_bl)) pss_nil)
      (Evl.pss_cut (ps_set (i := 21) sc_law.nd rfl (Or.inl rfl) (pe_call (ok_write_block T) (hr.mono (by decide)) rfl T.g_write_block T.F_write_block.kp T.b_write_block .nil pass0 (pa_cons (pe_tup (pa_cons pe_int (pa_cons pe_int (pa_cons (pe_callTy call_tuple_of rfl T.z_tuple boot_tuple (pa_cons (pe_lc (own := [("field", 14)]) (g := (gName 14)) (tt := tYes)  rfl sc_law.nd (pi_tup (pv 5)) (blkOk_by (own := [("field", 14)]) (N := ["script", "pen", "turn", "setting", "entries", "fields", "length", "octets", "lengths", "again", "required", "base", "block", "parts", "field", "fronts", "key", "gaps", "one", "fewer", "number", "plain"]) (sc := defScope s_law) (by decide +kernel)) (fun _ _ _ _ _ => (pg_name (i := 14) sc_law.nd rfl (Or.inl rfl))) (fun _ _ _ _ _ => pts_nil) (fun _ _ _ _ _ => (pe_op (opK (K := K) (r := rCatT) op_catT) (pe_tup (pa_cons pe_str pa_nil)) (pv 14)))) pa_nil)) pa_nil)))) pa_nil)))
      (pss_one (ps_if (pt_cmpR (op_neSh hu70) (pe_call (ok_shortest T) (hr.mono (by decide)) rfl T.g_shortest T.F_shortest.kp T.b_shortest .nil pass0 (pa_cons (pe_tup (pa_cons (pe_tup pa_nil) (pa_cons pe_int (pa_cons pe_int pa_nil)))) (pa_cons pe_dnewK (pa_cons (pv 5) pa_nil)))) (pe_tup (pa_cons (pe_callB call_len rfl T.z_len boot_len (pa_cons (pv 21) pa_nil)) (pa_cons (pv 21) (pa_cons (pe_dT1 (hu_of hr) (pe_tup (pa_cons pe_int (pa_cons pe_int pa_nil))) (pe_callB call_len rfl T.z_len boot_len (pa_cons (pv 21) pa_nil))) pa_nil)))) (nomark _)) (pss_one (ps_ret pe_bl)) pss_nil)))))))))))))
      (pss_one (ps_ret pe_bl)))), ?_⟩
    refine ⟨_, rfl, a, ns, rfl, hS, hl, fun p c H1 hp s1 P1 => ?_⟩
    refine ⟨_, rfl, by decide, by decide, ?_⟩
    refine for_range (lo := 0) (n := 3) (fun i σ H' => ∃ v2 v3 v4 v5 v6 v7 v8 v9 v10 v11 v12 v13 v14 v15 v16 v17 v18 v19 v20 v21 : Option V, σ = [some (.ref a), some (.ref p), v2, v3, v4, v5, v6, v7, v8, v9, v10, v11, v12, v13, v14, v15, v16, v17, v18, v19, v20, v21] ∧ Pen H' p c (40000 * i)) ⟨_, _, _, _, _, _, _, _, _, _, _, _, _, _, _, _, _, _, _, _, rfl, P1⟩ ?_ ?_
    · rintro i σ H2 hi ⟨v2, v3, v4, v5, v6, v7, v8, v9, v10, v11, v12, v13, v14, v15, v16, v17, v18, v19, v20, v21, rfl, P2⟩
      refine ⟨_, rfl, p, c, _, rfl, P2, by omega, fun sv F r w H3 hS3 okS d3 => ?_⟩
      obtain ⟨sa, ft, fx, rfl, z1, z2, z3⟩ := id hS3
      refine ⟨_, rfl, p, c, _, rfl, d3.pen, by omega, fun D0 es0 H4 hD0 hE0 okE0 hk39 d4 => ?_⟩
      obtain ⟨kv0, gD0, hp0⟩ := id hE0
      refine ⟨.inr (.inr (.inl ⟨rfl, .inl ⟨_, gD0⟩⟩)), D0, kv0, rfl, rfl, gD0, fun vp hvp => ?_⟩
      have s5 := Same.new (o := DX.itemsO vp D0) hvp
      have e5 : upd H4 vp (DX.itemsO vp D0) vp = some (DX.itemsO vp D0) := upd_same
      generalize upd H4 vp (DX.itemsO vp D0) = H5 at s5 e5 ⊢
      refine ⟨vp, D0, kv0, rfl, e5, s5 _ _ gD0, fun L ts H6 s6 hL gL hts => ?_⟩
      refine ⟨5, rfl, L, ts.map V.ref, rfl, SqL.of gL, fun X hX => ?_⟩
      rw [show cutV (ts.map V.ref) none (some (5 : Int)) = (ts.map V.ref).take 5 from cut_to _ 5]
      have s7 := Same.new (o := .lst ((ts.map V.ref).take 5)) hX
      have e7 : SqL K (upd H6 X (.lst ((ts.map V.ref).take 5))) X ((ts.take 5).map V.ref) := by rw [← List.map_take]; exact SqL.of upd_same
      generalize upd H6 X (.lst ((ts.map V.ref).take 5)) = H7 at s7 e7 ⊢
      refine ⟨X, ts.take 5, kv0.take 5, rfl, e7, p_take 5 (pmap (fun _ _ z => SqT.of (s7 _ _ z)) hts), fun D hD => ?_⟩
      rw [take_kvs hp0 okE0.nd]
      have s8 := Same.new (o := .dK (kv0.take 5)) hD
      have s48 := ((s5.trans s6).trans s7).trans s8
      have hE8 : EntV K (upd H7 D (.dK (kv0.take 5))) D (es0.take 5) := ⟨kv0.take 5, upd_same, pmap (fun _ _ z => z.ts (.of s48)) (p_take 5 hp0)⟩
      have okE : EsOk 24 (es0.take 5) := okE0.sub (List.take_sublist 5 es0)
      have hl5 : (es0.take 5).length ≤ 5 := by rw [List.length_take]; omega
      have hk : ∀ e ∈ es0.take 5, e.1 ≤ 39 := fun e m => hk39 e (List.mem_of_mem_take m)
      generalize upd H7 D (.dK (kv0.take 5)) = H8 at s8 hE8 s48 ⊢
      generalize es0.take 5 = es at hE8 okE hl5 hk
      refine ⟨by show 2 ≤ sizeLine; decide, fun tp htp => ?_⟩
      have s9 := Same.new (o := .tup [.ref sa, .ref D]) htp
      have e9 : SqT K (upd H8 tp (.tup [.ref sa, .ref D])) tp [.ref sa, .ref D] := SqT.of upd_same
      have d9 := d4.keep (s48.trans s9)
      have hE9 := hE8.same s9
      have t39 := TS.drew d3.pen d9
      generalize upd H8 tp (.tup [.ref sa, .ref D]) = H9 at s9 e9 d9 hE9 t39 ⊢
      have P9 := d9.pen
      have z1 := t39.tup z1
      have z2 := t39.tup z2
      have z3 := z3.ts t39
      refine ⟨tp, _, rfl, e9, rfl, _, _, rfl, _, _, rfl, rfl, ?_⟩
      have ok := shOk_of okS okE
      clear s5 s6 s7 s8 s48 s9 e5 e7 e9 t39 hts gL hL hX hvp gD0 hp0 hE0 okE0 hk39 d4 d3 hS3 hE8 hD hD0 htp d9 P2
      -- fields
      refine ⟨fun σ' H' => ∃ (u : Addr) (xs : List V) (fs : List Fd), σ' = [some (.ref a), some (.ref p), some (.int (0 + (i : Int))), some (.ref sa), some (.ref D), some (.ref u), v6, v7, v8, v9, v10, v11, v12, v13, v14, v15, v16, v17, v18, v19, v20, v21] ∧ Drew p c H9 H' (40000 * i + 14000) ∧ SqT K H' u xs ∧ FdsV K H' xs fs ∧ (∀ f ∈ fs, FdOk f) ∧ fs.length ≤ 16, ?_, ?_⟩
      · exact ⟨_, rfl, _, rfl, _, _, _, _, rfl, rfl, z1, rfl, _, rfl, p, c, ft, D, _, F, es, rfl, P9, by omega, ⟨⟨fx, z2, z3⟩, hE9⟩, okS.len, okS.fd, okE, fun u xs fs HA hu hfs okf hfl dA => ⟨u, xs, fs, rfl, dA.mono (by omega), hu, hfs, okf, hfl⟩⟩
      · rintro σ HA ⟨u, xs, fs, rfl, dA, hu, hfs, okf, hfl⟩
        have tA := TS.drew P9 dA
        have hEA := hE9.drew P9 dA
        have z1 := tA.tup z1
        have z2 := tA.tup z2
        have z3 := z3.ts tA
        have hul := p_len hfs
        -- the shortest
        refine ⟨fun σ' H' => ∃ (m : Nat) (o la : Addr) (oc : List Int), σ' = [some (.ref a), some (.ref p), some (.int (0 + (i : Int))), some (.ref sa), some (.ref D), some (.ref u), some (.int (m : Nat)), some (.ref o), some (.ref la), v9, v10, v11, v12, v13, v14, v15, v16, v17, v18, v19, v20, v21] ∧ Pen H' p c (40000 * i + 14000) ∧ Wd K sa ft D u la fx xs F r w es fs H' ∧ ShRes F es fs m oc, ?_, ?_⟩
        · refine ⟨_, rfl, _, rfl, _, rfl, .ref sa, D, u, F, r, w, es, xs, fs, rfl, ⟨sa, ft, fx, rfl, z1, z2, z3⟩, okS, hEA, okE, hu, hfs, okf, hfl, fun t o la m oc HB sB ht ho hla gt go hl hres => ?_⟩
          exact ⟨t, _, rfl, SqT.of gt, rfl, _, _, rfl, _, _, rfl, _, _, rfl, rfl, m, o, la, oc, rfl, dA.pen.keep sB, ⟨sB.tup z1, sB.tup z2, z3.ts (.of sB), hEA.same sB, sB.tup hu, hfs.ts (.of sB), hl⟩, hres⟩
        · rintro σ HB ⟨m, o, la, oc, rfl, PB, wB, hres⟩
          clear z1 z2 z3 hEA tA dA hu hfs hE9 P9
          -- blocks
          refine ⟨_, rfl, by decide, by decide, ?_⟩
          refine for_range (lo := 0) (n := 6) (fun j σ H' => ∃ v9 v10 v11 v12 : Option V, σ = [some (.ref a), some (.ref p), some (.int (0 + (i : Int))), some (.ref sa), some (.ref D), some (.ref u), some (.int (m : Nat)), some (.ref o), some (.ref la), v9, v10, v11, v12, v13, v14, v15, v16, v17, v18, v19, v20, v21] ∧ Pen H' p c (40000 * i + 14000 + 30 * j) ∧ Wd K sa ft D u la fx xs F r w es fs H') ⟨_, _, _, _, rfl, PB, wB⟩ ?_ ?_
          · rintro j σ HC hj ⟨v9, v10, v11, v12, rfl, PC, wC⟩
            -- a key
            refine ⟨fun σ' H' => ∃ qq : Nat × Nat, qq ∈ allK es ∧ σ' = [some (.ref a), some (.ref p), some (.int (0 + (i : Int))), some (.ref sa), some (.ref D), some (.ref u), some (.int (m : Nat)), some (.ref o), some (.ref la), some (.int (0 + (j : Int))), some (.int (qq.1 : Nat)), some (.int (qq.2 : Nat)), v12, v13, v14, v15, v16, v17, v18, v19, v20, v21] ∧ Pen H' p c (40000 * i + 14000 + 30 * j + 1) ∧ Wd K sa ft D u la fx xs F r w es fs H', ?_, ?_⟩
            · obtain ⟨kvs, gl, rfl⟩ := id wC.le
              refine ⟨_, rfl, _, rfl, la, _, allK es, rfl, .inl gl, lenD_keys, fun ys qs pL perm sorted hKV hpL => ?_⟩
              have s1 := Same.new (o := .lst ys) hpL
              have hyl := p_len hKV
              have hql := perm.length_eq
              have hal := all_small hl5 hk
              have hane : (allK es).length ≠ 0 := fun z => all_ne es (List.length_eq_zero_iff.mp z)
              refine ⟨p, c, pL, _, ys, rfl, PC.keep s1, SqL.of upd_same, Ne.symm (PC.ne hpL), fun z => by rw [z] at hyl; exact hane (by rw [← hql, ← hyl]; rfl), by omega, by omega, fun x HD hx dD => ?_⟩
              obtain ⟨qq, hq, t, rfl, ht⟩ := keysV_mem hKV x hx
              have tD : TS HC HD := (TS.of s1).trans (TS.drew (PC.keep s1) dD)
              have ht' : SqT K HD t [.int (qq.1 : Nat), .int (qq.2 : Nat)] := tD.tup (SqT.of ht)
              exact ⟨t, _, rfl, ht', rfl, _, _, rfl, _, _, rfl, rfl, qq, perm.mem_iff.mp hq, rfl, dD.pen, (wC.same s1).drew (PC.keep s1) dD⟩
            · rintro σ HD ⟨qq, hq, rfl, PD, wD⟩
              have hqi := keys_in.mp hq
              have hq9 := reqs_le ok _ hqi.1
              have hqb : qq.2 ≤ qq.1 := hqi.2.2
              refine ⟨_, rfl, _, rfl, _, rfl, _, rfl, _, _, _, _, rfl, rfl, wD.st, rfl, _, rfl, _, rfl, _, rfl, p, c, ft, D, u, _, F, es, xs, fs, qq.1, rfl, PD, by omega, wD.tab, ok, okS.len, okE.len, wD.fu, wD.fs_, okf, hfl, fun v ys ls HE hv hls hLL dE => ?_⟩
              have wE := wD.drew PD dE
              refine ⟨by show 3 ≤ sizeLine; decide, fun bt hbt => ?_⟩
              have s2 := Same.new (o := .tup [.int (qq.1 : Nat), .int (qq.2 : Nat), .ref v]) hbt
              have hb : BlkV K (upd HE bt (.tup [.int (qq.1 : Nat), .int (qq.2 : Nat), .ref v])) (.ref bt) ⟨qq.1, qq.2, ls⟩ := ⟨bt, v, ys, rfl, SqT.of upd_same, s2.tup hv, hls.keep s2⟩
              have wF := wE.same s2
              have PF := dE.pen.keep s2
              generalize upd HE bt (.tup [.int (qq.1 : Nat), .int (qq.2 : Nat), .ref v]) = HF at s2 hb wF PF ⊢
              obtain ⟨g1, g2, g3, g4⟩ := hLL.say qq.2
              have okB : (⟨qq.1, qq.2, ls⟩ : Blk).Ok := ⟨hq9, hqb, by show ls.length ≤ 16; omega, g2⟩
              refine ⟨fun σ' H' => σ' = [some (.ref a), some (.ref p), some (.int (0 + (i : Int))), some (.ref sa), some (.ref D), some (.ref u), some (.int (m : Nat)), some (.ref o), some (.ref la), some (.int (0 + (j : Int))), some (.int (qq.1 : Nat)), some (.int (qq.2 : Nat)), some (.ref bt), v13, v14, v15, v16, v17, v18, v19, v20, v21] ∧ Same HF H', ?_, ?_⟩
              · refine ⟨_, rfl, _, rfl, _, rfl, .ref sa, .ref bt, D, F, r, w, es, ⟨qq.1, qq.2, ls⟩, rfl, wF.set, okS, wF.en, okE, hb, okB, fun rv HG sG hd => ?_⟩
                rw [g3] at hd
                refine ⟨_, rfl, _, _, hd, .tup (sG.tup wF.fu) (FdsV.dp (wF.fs_.ts (.of sG))), fds_shaped okf (by omega), fds_shaped okf (by omega), ?_⟩
                exact ⟨_, rfl, ifF (by show (!PyData.eqv (.tuple (fs.map fdat)) (.tuple (fs.map fdat))) = false; rw [fds_eqv]; rfl) ⟨rfl, sG⟩⟩
              · rintro σ HG ⟨rfl, sG⟩
                have wG := wF.same sG
                obtain ⟨kvs, gl, rfl⟩ := id wG.le
                refine ⟨_, rfl, _, rfl, _, rfl, _, rfl, by show 2 ≤ sizeLine; decide, fun kt hkt => ?_⟩
                have s3 := Same.new (o := .tup [.int (qq.1 : Nat), .int (qq.2 : Nat)]) hkt
                refine ⟨la, _, rfl, .inr ⟨_, lenK qq, kt, .inl (s3 _ _ gl), rfl, upd_same, (len_val hq).symm⟩, ?_⟩
                refine ⟨_, _, rfl, rfl, ?_⟩
                have hmin := hres.min qq hq
                refine ⟨_, rfl, ifT (decide_eq_true (by omega)) ?_⟩
                refine ⟨_, rfl, .ref bt, ⟨qq.1, qq.2, ls⟩, rfl, hb.keep (sG.trans s3), okB, fun o2 HI ho2 sI go2 => ?_⟩
                refine ⟨_, _, rfl, .inl ⟨_, SqL.of go2, rfl⟩, _, _, rfl, rfl, _, rfl, ?_⟩
                have hlen := hLL.len (b := qq.2)
                rw [List.length_map, decide_eq_true (show ((lenN F es fs qq.1 qq.2 : Nat) : Int) ≤ (((⟨qq.1, qq.2, ls⟩ : Blk).oct.length : Nat) : Int) by omega)]
                have sY := (sG.trans s3).trans sI
                exact ifF rfl ⟨_, _, _, _, rfl, (PF.keep sY).mono (by omega), wF.same sY⟩
          · rintro σ HC ⟨v9, v10, v11, v12, rfl, PC, wC⟩
            clear wB PB
            -- parts
            refine ⟨fun σ' H' => ∃ (C : Addr) (ys : List V) (v14 : Option V), σ' = [some (.ref a), some (.ref p), some (.int (0 + (i : Int))), some (.ref sa), some (.ref D), some (.ref u), some (.int (m : Nat)), some (.ref o), some (.ref la), v9, v10, v11, v12, some (.ref C), v14, v15, v16, v17, v18, v19, v20, v21] ∧ Same HC H' ∧ C ≠ p ∧ H' C = some (.lst ys) ∧ Paired (fun v f => PtV F es v f H') ys fs, ?_, ?_⟩
            · refine ⟨_, rfl, u, rfl, ⟨xs, wC.fu⟩, fun CC hCC => ?_⟩
              refine lc_relB (R := fun v f H => PtV F es v f H) fs (fun _ _ _ _ hD b ⟨a, e, l⟩ => ⟨a, e, l.bt hD b⟩) walk_tup hul (by omega) hCC (fun H' s => s.tup wC.fu) ?_ ?_
              · rintro k x f H' H'' Q' Z hk' s' hCn ⟨rfl, hx⟩ q'
                obtain ⟨f', hf', hfv⟩ := p_at wC.fs_ hx
                rw [hk'] at hf'
                cases hf'
                refine ⟨rfl, yesI ⟨_, rfl, _, rfl, _, rfl, by show 1 ≤ sizeLine; decide, fun t1 ht1 => ?_⟩⟩
                have s2 := Same.new (o := .tup [x]) ht1
                have w' := (wC.same s').same s2
                refine ⟨.ref sa, D, t1, F, r, w, es, [x], [f], rfl, w'.set, okS, w'.en, okE, SqT.of upd_same, .cons (hfv.ts (.of (s'.trans s2))) .nil, fun g m => by rw [List.mem_singleton.mp m]; exact okf f (List.mem_of_getElem? hk'), by show 1 ≤ 16; decide, fun t o a n1 oc1 H4 s4 ht ho ha gt go hl hr1 => ?_⟩
                refine ⟨_, _, _, _, rfl, rfl, SqT.of gt, rfl, ?_⟩
                exact q' _ H4 (s2.trans s4) ⟨a, rfl, hl⟩
              · intro ys HD sD hCD hys
                exact ⟨CC, ys, _, rfl, sD, Ne.symm (PC.ne hCC), hCD, hys⟩
            · rintro σ HD ⟨C, ys, v14, rfl, sD, nCp, gC, hys⟩
              have wD := wC.same sD
              have PD := PC.keep sD
              have hyl := p_len hys
              clear wC PC
              -- fronts
              refine ⟨fun σ' H' => ∃ fr : Addr, σ' = [some (.ref a), some (.ref p), some (.int (0 + (i : Int))), some (.ref sa), some (.ref D), some (.ref u), some (.int (m : Nat)), some (.ref o), some (.ref la), v9, v10, v11, v12, some (.ref C), v14, some (.ref fr), v16, v17, v18, v19, v20, v21] ∧ Same HD H' ∧ LenD F es [] (allK es) H' fr, ?_, ?_⟩
              · refine ⟨_, rfl, _, rfl, by show 0 ≤ sizeLine; decide, fun t0 ht0 => ?_⟩
                have s2 := Same.new (o := .tup []) ht0
                have w' := wD.same s2
                refine ⟨.ref sa, D, t0, F, r, w, es, [], [], rfl, w'.set, okS, w'.en, okE, SqT.of upd_same, .nil, fun g m => (nomatch m), by show 0 ≤ 16; decide, fun t o a n1 oc1 H4 s4 ht ho ha gt go hl hr1 => ?_⟩
                exact ⟨_, _, _, _, rfl, rfl, SqT.of gt, rfl, a, rfl, s2.trans s4, hl⟩
              · rintro σ HE ⟨fr, rfl, sE, hfr⟩
                have wE := wD.same sE
                have PE_ := PD.keep sE
                have gC := sE _ _ gC
                have hys : Paired (fun v f => PtV F es v f HE) ys fs := pmap (fun _ _ ⟨a, e, l⟩ => ⟨a, e, l.same sE⟩) hys
                clear wD PD
                -- keys
                have hal := all_small hl5 hk
                have hane : (allK es).length ≠ 0 := fun z => all_ne es (List.length_eq_zero_iff.mp z)
                refine ⟨by show 2 ≤ sizeLine; decide, fun T0 hT0 => ?_⟩
                have s1 := Same.new (o := .tup [.int 0, .int 0]) hT0
                have e1 : SqT K (upd HE T0 (.tup [.int 0, .int 0])) T0 [.int 0, .int 0] := SqT.of upd_same
                have gT0 : upd HE T0 (.tup [.int 0, .int 0]) T0 = some (.tup [.int 0, .int 0]) := upd_same
                generalize upd HE T0 (.tup [.int 0, .int 0]) = HF at s1 e1 gT0 ⊢
                have wF := wE.same s1
                have PF := PE_.keep s1
                obtain ⟨kvs, gl, ekv⟩ := id wF.le
                subst ekv
                refine ⟨_, rfl, _, rfl, la, _, allK es, rfl, .inl gl, lenD_keys, fun y1 qs1 pL1 perm1 sorted1 hKV1 hpL1 => ?_⟩
                have s2 := Same.new (o := .lst y1) hpL1
                have hyl1 := p_len hKV1
                have hql1 := perm1.length_eq
                refine ⟨p, c, pL1, _, y1, rfl, PF.keep s2, SqL.of upd_same, Ne.symm (PF.ne hpL1), fun z => by rw [z] at hyl1; exact hane (by rw [← hql1, ← hyl1]; rfl), by omega, by omega, fun x1 HG hx1 dG => ?_⟩
                obtain ⟨q1, hq1, t1, rfl, ht1⟩ := keysV_mem hKV1 x1 hx1
                have dG' := Drew.pre s2 dG
                have tG := TS.drew PF dG'
                have wG := wF.drew PF dG'
                have PG := dG'.pen
                have ht1 : HG t1 = some (.tup ((lenK q1).map kV)) := tG _ _ (.inl ⟨_, rfl⟩) ht1
                clear dG
                obtain ⟨kvs, gl, ekv⟩ := id wG.le
                subst ekv
                refine ⟨_, rfl, _, rfl, la, _, allK es, rfl, .inl gl, lenD_keys, fun y2 qs2 pL2 perm2 sorted2 hKV2 hpL2 => ?_⟩
                have s3 := Same.new (o := .lst y2) hpL2
                have hyl2 := p_len hKV2
                have hql2 := perm2.length_eq
                refine ⟨p, c, pL2, _, y2, rfl, PG.keep s3, SqL.of upd_same, Ne.symm (PG.ne hpL2), fun z => by rw [z] at hyl2; exact hane (by rw [← hql2, ← hyl2]; rfl), by omega, by omega, fun x2 HI hx2 dI => ?_⟩
                obtain ⟨q2, hq2, t2, rfl, ht2⟩ := keysV_mem hKV2 x2 hx2
                have dI' := Drew.pre s3 dI
                have tI := TS.drew PG dI'
                have wI := wG.drew PG dI'
                have PI := dI'.pen
                have ht2 : HI t2 = some (.tup ((lenK q2).map kV)) := tI _ _ (.inl ⟨_, rfl⟩) ht2
                have ht1 : HI t1 = some (.tup ((lenK q1).map kV)) := tI _ _ (.inl ⟨_, rfl⟩) ht1
                have ht0 : HI T0 = some (.tup ((lenK (0, 0)).map kV)) := tI _ _ (.inl ⟨_, rfl⟩) (tG _ _ (.inl ⟨_, rfl⟩) gT0)
                clear dI
                refine ⟨by show 3 ≤ sizeLine; decide, fun KL hKL => ⟨KL, rfl, ⟨_, SqL.of upd_same⟩, ?_⟩⟩
                have s4 := Same.new (o := .lst [.ref T0, .ref t1, .ref t2]) hKL
                have gKL : upd HI KL (.lst [.ref T0, .ref t1, .ref t2]) KL = some (.lst [.ref T0, .ref t1, .ref t2]) := upd_same
                have wJ := wI.same s4
                have PJ := PI.keep s4
                have gC := s4 _ _ (dI'.but _ _ nCp (dG'.but _ _ nCp (s1 _ _ gC)))
                have hys : Paired (fun v f => PtV F es v f (upd HI KL (.lst [.ref T0, .ref t1, .ref t2]))) ys fs := pmap (fun _ _ ⟨a, e, l⟩ => ⟨a, e, (((l.same s1).drew PF dG').drew PG dI').same s4⟩) hys
                have hfr := (((hfr.same s1).drew PF dG').drew PG dI').same s4
                have hkeys : ∀ x ∈ [V.ref T0, .ref t1, .ref t2], ∃ qq ∈ allK es, KyV (upd HI KL (.lst [.ref T0, .ref t1, .ref t2])) x qq := fun x m => by
                  simp only [List.mem_cons, List.not_mem_nil, or_false] at m
                  rcases m with m | m | m
                  · exact ⟨(0, 0), zero_in es, T0, m, s4 _ _ ht0⟩
                  · exact ⟨q1, perm1.mem_iff.mp hq1, t1, m, s4 _ _ ht1⟩
                  · exact ⟨q2, perm2.mem_iff.mp hq2, t2, m, s4 _ _ ht2⟩
                generalize upd HI KL (.lst [.ref T0, .ref t1, .ref t2]) = HJ at s4 gKL wJ PJ gC hys hfr hkeys ⊢
                generalize hkk : [V.ref T0, .ref t1, .ref t2] = kx at gKL hkeys
                refine for_list (K := K) (a := KL) (xs := kx) (fun j σ H' => ∃ v16 v17 v18 : Option V, σ = [some (.ref a), some (.ref p), some (.int (0 + (i : Int))), some (.ref sa), some (.ref D), some (.ref u), some (.int (m : Nat)), some (.ref o), some (.ref la), v9, v10, v11, v12, some (.ref C), v14, some (.ref fr), v16, v17, v18, v19, v20, v21] ∧ Same HJ H') ⟨_, _, _, rfl, Same.refl _⟩ (fun j σ H' _ ⟨_, _, _, _, s⟩ => SqL.of (s _ _ gKL)) ?_ ?_
                · rintro j x σ HX hx ⟨w16, w17, w18, rfl, sX⟩
                  obtain ⟨qq, hq, t, rfl, ht⟩ := hkeys x (List.mem_of_getElem? hx)
                  have gC' := sX _ _ gC
                  refine ⟨_, rfl, C, rfl, ⟨_, SqL.of gC'⟩, fun GG hGG => ?_⟩
                  refine lc_rel (R := fun v f _ => v = V.int (mn F es f qq.2 qq.1 : Nat)) (fun _ _ _ _ _ z => z) fs walk_list hyl (by omega) hGG (fun H' s => SqL.of (s _ _ gC')) ?_ ?_
                  · rintro k y f H' H'' Q' Z hk' s' _ ⟨rfl, hy⟩ q'
                    obtain ⟨f', hf', pa, rfl, hpl⟩ := p_at hys hy
                    rw [hk'] at hf'
                    cases hf'
                    obtain ⟨kv1, g1, rfl⟩ := hpl.same (sX.trans s')
                    obtain ⟨kv2, g2, rfl⟩ := hfr.same (sX.trans s')
                    refine ⟨rfl, yesI ⟨_, rfl, _, rfl, pa, _, rfl, .inr ⟨_, lenK qq, t, .inl g1, rfl, (sX.trans s') _ _ ht, (len_val hq).symm⟩, _, rfl, _, rfl, fr, _, rfl, .inr ⟨_, lenK qq, t, .inl g2, rfl, (sX.trans s') _ _ ht, (len_val hq).symm⟩, _, _, rfl, rfl, ?_⟩⟩
                    refine q' _ H'' (Same.refl _) ?_
                    have := lenN_gap F es f qq.1 qq.2
                    show V.int (((lenN F es [f] qq.1 qq.2 : Nat) : Int) - ((lenN F es [] qq.1 qq.2 : Nat) : Int)) = _
                    rw [lenN_nil, this]
                  · intro gs HY sY hGY hgs
                    have egs := p_eqm hgs
                    have wY := wJ.same (sX.trans sY)
                    obtain ⟨kv1, g1, rfl⟩ := id wY.le
                    obtain ⟨kv2, g2, rfl⟩ := hfr.same (sX.trans sY)
                    have hty := (sX.trans sY) _ _ ht
                    refine ⟨_, rfl, _, rfl, la, _, rfl, .inr ⟨_, lenK qq, t, .inl g1, rfl, hty, (len_val hq).symm⟩, _, rfl, _, rfl, fr, _, rfl, .inr ⟨_, lenK qq, t, .inl g2, rfl, hty, (len_val hq).symm⟩, _, rfl, GG, fs.map (fun f => ((mn F es f qq.2 qq.1 : Nat) : Int)), rfl, SqL.of (by rw [hGY, egs, List.map_map]; rfl), _, _, rfl, rfl, rfl, _, rfl, ifF ?_ ?_⟩
                    · rw [sum_mn fs fun f => mn F es f qq.2 qq.1]
                      have : V.int ((lenN F es fs qq.1 qq.2 : Nat) : Int) = V.int (((lenN F es [] qq.1 qq.2 : Nat) : Int) + ((((fs.map fun f => mn F es f qq.2 qq.1).sum : Nat)) : Int)) := by
                        first
                          | (congr 1; done)
                          | (congr 1; rw [lenN_nil]; unfold lenN; omega)
                      rw [this]
                      show (!decide (V.int _ = V.int _)) = false
                      rw [decide_eq_true rfl]
                      rfl
                    · exact ⟨_, _, _, rfl, sX.trans sY⟩
                · rintro σ HK ⟨v16, v17, v18, rfl, sK⟩
                  have wK := wJ.same sK
                  have PK : Pen HK p c (40000 * i + 14300) := (PJ.keep sK).mono (by omega)
                  clear hys hfr gC gKL hkeys wJ PJ wI PI wG PG wF PF wE PE_
                  -- fewer
                  refine ⟨fun σ' H' => ∃ (DD : Addr) (es2 : Ent) (v20 : Option V), σ' = [some (.ref a), some (.ref p), some (.int (0 + (i : Int))), some (.ref sa), some (.ref D), some (.ref u), some (.int (m : Nat)), some (.ref o), some (.ref la), v9, v10, v11, v12, some (.ref C), v14, some (.ref fr), v16, v17, v18, some (.ref DD), v20, v21] ∧ Pen H' p c (40000 * i + 14400) ∧ Wd K sa ft D u la fx xs F r w es fs H' ∧ EntV K H' DD es2 ∧ es2.Sublist es, ?_, ?_⟩
                  · obtain ⟨kvs, gD, hpp⟩ := id wK.en
                    have hkl := p_len hpp
                    refine ⟨D, .dK kvs, gD, True.intro, fun od => ?_⟩
                    have npD : p ≠ D := fun z => by obtain ⟨zs, hz⟩ := PK.some.1; rw [z, gD] at hz; cases hz
                    have ncD : c ≠ D := fun z => by obtain ⟨zs, hz⟩ := PK.some.2; rw [z, gD] at hz; cases hz
                    have P0 := PK.upd (o := .frz od (.dK kvs)) npD ncD
                    have tl : TS HK (upd HK D (.frz od (.dK kvs))) := TS.at gD nt_dK
                    refine ⟨_, rfl, D, od, rfl, .inl ⟨kvs, upd_same, fun CC hCC => ?_⟩⟩
                    have nDC : D ≠ CC := fun z => by rw [← z, upd_same] at hCC; cases hCC
                    refine lc_genF walk_keys (fun k ys H' => Drew p c (upd HK D (.frz od (.dK kvs))) H' (40000 * i + 14300 + k) ∧ ∃ (ts : List Addr) (ks : List (Key × V)) (es2 : Ent), ys = ts.map V.ref ∧ Paired (fun t kv => SqT K H' t [kV kv.1, kv.2]) ts ks ∧ Paired (PrV K H') ks es2 ∧ es2.Sublist (es.take k)) (by omega)
                      ⟨⟨(P0.keep (Same.new hCC)).mono (by omega), But.new hCC⟩, [], [], [], rfl, .nil, .nil, List.Sublist.refl _⟩ (fun k ys H' h => h.1.but _ _ (Ne.symm npD) upd_same) ?_ ?_
                    · rintro k ys x H' H'' Q' Z hi' hly gC ⟨dr, ts, ks, es2, rfl, hts, hks, hsub⟩ ⟨rfl, ky, v0, hkv, rfl⟩ qy qn
                      obtain ⟨ej, hej, hpe⟩ := p_at hpp hkv
                      have gDf := dr.but _ _ (Ne.symm npD) upd_same
                      have hv := val_mem (keys_nd hpp okE.nd) (List.mem_of_getElem? hkv)
                      have nCp := P0.ne hCC
                      have ncC := P0.nec hCC
                      have et : es.take (k + 1) = es.take k ++ [ej] := by rw [List.take_add_one, hej]; rfl
                      refine ⟨rfl, _, rfl, take_n 2 dr.pen (by decide) (by decide) (by omega) fun rr H5 hr d5 => ?_⟩
                      have t5 := TS.drew dr.pen d5
                      have gC5 := d5.but _ _ (Ne.symm nCp) gC
                      have gD5 := d5.but _ _ (Ne.symm npD) gDf
                      refine ⟨rfl, _, rfl, ifb (fun _ => ?_) (fun _ => ?_)⟩
                      · refine ⟨_, rfl, _, rfl, _, rfl, D, v0, rfl, .inl ⟨kvs, ky, .inr ⟨od, gD5⟩, rfl, hv.symm⟩, by show 2 ≤ sizeLine; decide, fun t1 ht1 => ?_⟩
                        have s6 := Same.new (o := .tup [kV ky, v0]) ht1
                        have e6 : SqT K (upd H5 t1 (.tup [kV ky, v0])) t1 [kV ky, v0] := SqT.of upd_same
                        generalize upd H5 t1 (.tup [kV ky, v0]) = H6 at s6 e6 ⊢
                        have gC6 := s6 _ _ gC5
                        have tC : TS H6 (upd H6 CC (.lst (ts.map V.ref ++ [V.ref t1]))) := TS.at gC6 nt_lst
                        have tA := (t5.trans (.of s6)).trans tC
                        have tB : TS HK (upd H6 CC (.lst (ts.map V.ref ++ [V.ref t1]))) := ((tl.trans (TS.drew P0 dr)).trans tA)
                        refine qy (.ref t1) H6 gC6 ⟨⟨((d5.pen.keep s6).upd nCp ncC).mono (by omega), ((dr.but.trans d5.but).trans (But.of s6)).put hCC⟩, ts ++ [t1], ks ++ [(ky, v0)], es2 ++ [ej], by rw [List.map_append]; rfl, p_app (pmap (fun _ _ z => tA.tup z) hts) (.cons (tC.tup e6) .nil), p_app (pmap (fun _ _ z => z.ts tA) hks) (.cons (hpe.ts tB) .nil), ?_⟩
                        rw [et]
                        exact hsub.append (List.Sublist.refl _)
                      · refine qn H5 gC5 ⟨⟨d5.pen.mono (by omega), dr.but.trans d5.but⟩, ts, ks, es2, rfl, pmap (fun _ _ z => t5.tup z) hts, pmap (fun _ _ z => z.ts t5) hks, ?_⟩
                        rw [et]
                        exact hsub.trans (List.sublist_append_left _ _)
                    · rintro ys HL hly gC ⟨dr, ts, ks, es2, rfl, hts, hks, hsub⟩
                      have gF := dr.but _ _ (Ne.symm npD) upd_same
                      have hsub' : es2.Sublist es := hsub.trans (List.take_sublist _ _)
                      have tU : TS HL (upd HL D (.dK kvs)) := fun c u z e => by
                        by_cases y : c = D
                        · rw [y, gF] at e
                          have := Option.some.inj e
                          subst this
                          rcases z with ⟨xs, z⟩ | ⟨o', xs, z⟩ <;> cases z
                        · rw [upd_ne y]; exact e
                      have dU : Drew p c HK (upd HL D (.dK kvs)) (40000 * i + 14300 + kvs.length) := ⟨dr.pen.upd npD ncD, fun c o n e => by
                        by_cases y : c = D
                        · rw [y, upd_same, ← gD, ← y]; exact e
                        · rw [upd_ne y]; exact dr.but c o n (by rw [upd_ne y]; exact e)⟩
                      have gCU : upd HL D (.dK kvs) CC = some (.lst (ts.map V.ref)) := by rw [upd_ne (Ne.symm nDC)]; exact gC
                      have hts := pmap (fun _ _ z => tU.tup z) hts
                      have hks := pmap (fun _ _ z => PrV.ts z tU) hks
                      have wU := wK.drew PK dU
                      refine ⟨gF, CC, ts, ks, rfl, ?_⟩
                      generalize upd HL D (.dK kvs) = HU at dU gCU hts hks wU ⊢
                      refine ⟨SqL.of gCU, hts, fun DD hDD => ?_⟩
                      rw [merge_nd (keys_nd hks (okE.sub hsub').nd)]
                      have s9 := Same.new (o := .dK ks) hDD
                      exact ⟨DD, es2, _, rfl, (dU.pen.keep s9).mono (by omega), wU.same s9, ⟨ks, upd_same, pmap (fun _ _ z => z.ts (.of s9)) hks⟩, hsub'⟩
                  · rintro σ HL ⟨DD, es2, w20, rfl, PL, wL, hE2, hsub⟩
                    have okE2 := okE.sub hsub
                    clear wK PK
                    have hsub2 : ∀ e ∈ es2, e ∈ es := fun e m => hsub.subset m
                    -- no shorter
                    refine ⟨fun σ' H' => ∃ (v14 v20 : Option V), σ' = [some (.ref a), some (.ref p), some (.int (0 + (i : Int))), some (.ref sa), some (.ref D), some (.ref u), some (.int (m : Nat)), some (.ref o), some (.ref la), v9, v10, v11, v12, some (.ref C), v14, some (.ref fr), v16, v17, v18, some (.ref DD), v20, v21] ∧ Same HL H', ?_, ?_⟩
                    · refine ⟨_, rfl, _, rfl, _, rfl, .ref sa, DD, u, F, r, w, es2, xs, fs, rfl, wL.set, okS, hE2, okE2, wL.fu, wL.fs_, okf, hfl, fun t o a n1 oc1 HM sM ht ho ha gt go hlM hr1 => ?_⟩
                      have hle := res_sub hres hr1 (refs_sub hsub2) (reqs_sub hsub2)
                      refine ⟨_, _, _, _, rfl, rfl, SqT.of gt, rfl, _, rfl, _, _, rfl, rfl, _, rfl, ifF (decide_eq_false (by omega)) ?_⟩
                      have wM := wL.same sM
                      refine ⟨by show 0 ≤ sizeLine; decide, fun t0 ht0 => ?_⟩
                      have s1 := Same.new (o := .tup []) ht0
                      have e1 : SqT K (upd HM t0 (.tup [])) t0 [] := SqT.of upd_same
                      generalize upd HM t0 (.tup []) = HN at s1 e1 ⊢
                      refine ⟨_, rfl, _, _, _, _, rfl, rfl, s1.tup wM.st, rfl, by show 3 ≤ sizeLine; decide, fun t1 ht1 => ?_⟩
                      have s2 := Same.new (o := .tup [.ref t0, .int (r : Nat), .int 0]) ht1
                      have e2 : SqT K (upd HN t1 (.tup [.ref t0, .int (r : Nat), .int 0])) t1 [.ref t0, .int (r : Nat), .int ((0 : Nat) : Int)] := SqT.of upd_same
                      generalize upd HN t1 (.tup [.ref t0, .int (r : Nat), .int 0]) = HO1 at s2 e2 ⊢
                      refine fun D1 hD1 => ?_
                      have s3 := Same.new (o := .dK []) hD1
                      have e3 : EntV K (upd HO1 D1 (.dK [])) D1 [] := ⟨[], upd_same, .nil⟩
                      generalize upd HO1 D1 (.dK []) = HP at s3 e3 ⊢
                      have sP := (s1.trans s2).trans s3
                      have wP := wM.same sP
                      refine ⟨_, rfl, .ref t1, D1, u, [], r, 0, [], xs, fs, rfl, ⟨t1, t0, [], rfl, s3.tup e2, (s2.trans s3).tup e1, .nil⟩, ⟨by show 0 ≤ 12; omega, fun f m => (nomatch m), okS.r, by omega⟩, e3, ⟨by show 0 ≤ 24; omega, fun e m => (nomatch m), fun e m => (nomatch m), List.nodup_nil⟩, wP.fu, wP.fs_, okf, hfl, fun t o a n2 oc2 HQ sQ ht ho ha gt go hlQ hr2 => ?_⟩
                      have hle2 := res_sub hres hr2 refs0 reqs0
                      exact ⟨_, _, _, _, rfl, rfl, SqT.of gt, rfl, _, rfl, _, _, rfl, rfl, _, rfl, ifF (decide_eq_false (by omega)) ⟨_, _, rfl, (sM.trans sP).trans sQ⟩⟩
                    · rintro σ HM ⟨w14, w20', rfl, sM⟩
                      have wM := wL.same sM
                      have PM := PL.keep sM
                      have okO := outB_ok okf hfl
                      clear wL PL hE2
                      -- plain
                      refine ⟨fun σ' H' => ∃ (pl : Addr) (v14 v20 : Option V), σ' = [some (.ref a), some (.ref p), some (.int (0 + (i : Int))), some (.ref sa), some (.ref D), some (.ref u), some (.int (m : Nat)), some (.ref o), some (.ref la), v9, v10, v11, v12, some (.ref C), v14, some (.ref fr), v16, v17, v18, some (.ref DD), v20, some (.ref pl)] ∧ Same HM H' ∧ H' pl = some (.lst ((outB fs).oct.map V.int)), ?_, ?_⟩
                      · refine ⟨_, rfl, u, rfl, ⟨xs, wM.fu⟩, fun CC hCC => ?_⟩
                        refine lc_rel (R := fun v (f : Fd) H => LnV K H v (Ln.out f.1 f.2)) (fun v f H H' t z => LnV.ts (l := Ln.out f.1 f.2) z t) fs walk_tup hul (by omega) hCC (fun H' s => s.tup wM.fu) ?_ ?_
                        · rintro k x f H' H'' Q' Z hf s' _ ⟨rfl, hx⟩ q'
                          obtain ⟨f', hf', hfv⟩ := p_at wM.fs_ hx
                          rw [hf] at hf'
                          cases hf'
                          obtain ⟨fa, rfl, hfa⟩ := hfv.ts (.of s')
                          refine ⟨rfl, yesI ⟨by show 1 ≤ sizeLine; decide, fun T1 hT1 => ?_⟩⟩
                          have s1 := Same.new (o := .tup [.str "out"]) hT1
                          refine ⟨_, rfl, T1, fa, _, _, rfl, rfl, SqT.of upd_same, s1.tup hfa, fun z => (nomatch z), by show 1 + 2 ≤ sizeLine; decide, fun z => (nomatch z), fun _ T2 hT2 => ?_⟩
                          have s2 := Same.new (o := .tup ([.str "out"] ++ [.str f.1, .str f.2])) hT2
                          exact q' _ _ (s1.trans s2) ⟨T2, rfl, SqT.of upd_same⟩
                        intro ys2 HN sN hCN hys2
                        refine ⟨CC, ys2, rfl, .inl ⟨SqL.of hCN, fun T3 hT3 => ?_⟩⟩
                        have s5 := Same.new (o := .tup ys2) hT3
                        have e5 : SqT K (upd HN T3 (.tup ys2)) T3 ys2 := SqT.of upd_same
                        generalize upd HN T3 (.tup ys2) = HO1 at s5 e5 ⊢
                        refine ⟨by show 3 ≤ sizeLine; decide, fun T4 hT4 => ?_⟩
                        have s6 := Same.new (o := .tup [.int 0, .int 0, .ref T3]) hT4
                        refine ⟨.ref T4, outB fs, rfl, ⟨T4, T3, ys2, rfl, SqT.of upd_same, s6.tup e5, lns_of_tris (p_mapR (pmap (fun v f z => LnV.ts (l := Ln.out (Prod.fst f) (Prod.snd f)) z (.of (s5.trans s6))) hys2))⟩, okO, fun o2 H7 ho2 s7 go2 => ?_⟩
                        exact ⟨o2, _, _, rfl, ((sN.trans s5).trans s6).trans s7, go2⟩
                      · rintro σ HN ⟨pl, x14, x20, rfl, sN, gpl⟩
                        have wN := wM.same sN
                        have PN := PM.keep sN
                        clear wM PM
                        refine ⟨by show 0 ≤ sizeLine; decide, fun t0 ht0 => ?_⟩
                        have s1 := Same.new (o := .tup []) ht0
                        have e1 : SqT K (upd HN t0 (.tup [])) t0 [] := SqT.of upd_same
                        generalize upd HN t0 (.tup []) = HO1 at s1 e1 ⊢
                        refine ⟨by show 3 ≤ sizeLine; decide, fun t1 ht1 => ?_⟩
                        have s2 := Same.new (o := .tup [.ref t0, .int 0, .int 0]) ht1
                        have e2 : SqT K (upd HO1 t1 (.tup [.ref t0, .int 0, .int 0])) t1 [.ref t0, .int ((0 : Nat) : Int), .int ((0 : Nat) : Int)] := SqT.of upd_same
                        generalize upd HO1 t1 (.tup [.ref t0, .int 0, .int 0]) = HP at s2 e2 ⊢
                        refine fun D1 hD1 => ?_
                        have s3 := Same.new (o := .dK []) hD1
                        have e3 : EntV K (upd HP D1 (.dK [])) D1 [] := ⟨[], upd_same, .nil⟩
                        generalize upd HP D1 (.dK []) = HQ at s3 e3 ⊢
                        have sQ := (s1.trans s2).trans s3
                        have wQ := wN.same sQ
                        refine ⟨_, rfl, .ref t1, D1, u, [], 0, 0, [], xs, fs, rfl, ⟨t1, t0, [], rfl, s3.tup e2, (s2.trans s3).tup e1, .nil⟩, ⟨by show 0 ≤ 12; omega, fun f m => (nomatch m), by omega, by omega⟩, e3, ⟨by show 0 ≤ 24; omega, fun e m => (nomatch m), fun e m => (nomatch m), List.nodup_nil⟩, wQ.fu, wQ.fs_, okf, hfl, fun t o a n2 oc2 HR sR ht ho ha gt go hlR hr2 => ?_⟩
                        obtain ⟨p1, p2, p3⟩ := plain_res hr2
                        obtain ⟨kr, gr, ekr⟩ := id hlR
                        subst ekr
                        rw [all0] at gr
                        have gr : HR a = some (.dT [(lenK (0, 0), V.int (n2 : Nat))]) := by rw [gr, p3]; rfl
                        have gplR := (sQ.trans sR) _ _ gpl
                        refine ⟨_, rfl, _, _, rfl, .inl ⟨_, SqL.of gplR, rfl⟩, _, rfl, fun dd hdd => ?_⟩
                        have s5 := Same.new (o := .dT []) hdd
                        have e5 : upd HR dd (.dT []) dd = some (.dT []) := upd_same
                        generalize upd HR dd (.dT []) = HS at s5 e5 ⊢
                        refine ⟨by show 2 ≤ sizeLine; decide, fun kt hkt => ?_⟩
                        have s6 := Same.new (o := .tup [.int 0, .int 0]) hkt
                        have e6 : upd HS kt (.tup [.int 0, .int 0]) kt = some (.tup ((lenK (0, 0)).map kV)) := upd_same
                        generalize upd HS kt (.tup [.int 0, .int 0]) = HT at s6 e6 ⊢
                        refine ⟨_, rfl, _, _, rfl, .inl ⟨_, SqL.of ((s5.trans s6) _ _ gplR), rfl⟩, s6 _ _ e5, kt, lenK (0, 0), rfl, e6, ?_⟩
                        have ndd : ∀ {c : Addr} {ob : HO}, HR c = some ob → upd HT dd (.dT [(lenK (0, 0), V.int ((((outB fs).oct.map V.int).length : Nat) : Int))]) c = some ob := fun {c ob} e => by
                          rw [upd_ne (ne_of_none e hdd)]; exact (s5.trans s6) _ _ e
                        have sV : Same HR (upd HT dd (.dT [(lenK (0, 0), V.int ((((outB fs).oct.map V.int).length : Nat) : Int))])) := fun _ _ e => ndd e
                        have eV : upd HT dd (.dT [(lenK (0, 0), V.int ((((outB fs).oct.map V.int).length : Nat) : Int))]) dd = some (.dT [(lenK (0, 0), V.int ((((outB fs).oct.map V.int).length : Nat) : Int))]) := upd_same
                        generalize upd HT dd (.dT [(lenK (0, 0), V.int ((((outB fs).oct.map V.int).length : Nat) : Int))]) = HV at sV eV ⊢
                        refine ⟨by show 3 ≤ sizeLine; decide, fun tt htt => ?_⟩
                        have s8 := Same.new (o := .tup [.int ((((outB fs).oct.map V.int).length : Nat) : Int), .ref pl, .ref dd]) htt
                        have e8 : SqT K (upd HV tt (.tup [.int ((((outB fs).oct.map V.int).length : Nat) : Int), .ref pl, .ref dd])) tt [.int ((((outB fs).oct.map V.int).length : Nat) : Int), .ref pl, .ref dd] := SqT.of upd_same
                        generalize upd HV tt (.tup [.int ((((outB fs).oct.map V.int).length : Nat) : Int), .ref pl, .ref dd]) = HW at s8 e8 ⊢
                        have sW := sV.trans s8
                        rw [List.length_map, ← p2] at eV e8
                        refine ⟨n2, (outB fs).oct, [(0, 0)], [(0, 0)], fun _ => n2, ⟨t, o, a, rfl, SqT.of (sW _ _ gt), SqL.of (by rw [sW _ _ go, p1]), sW _ _ gr⟩, ⟨tt, pl, dd, rfl, e8, SqL.of (sW _ _ gplR), s8 _ _ eV⟩, List.Perm.refl _, _, rfl, ifF rfl ?_⟩
                        exact ⟨_, _, _, _, _, _, _, _, _, _, _, _, _, _, _, _, _, _, _, _, rfl, (PN.keep ((sQ.trans sR).trans sW)).mono (by omega)⟩
    · rintro σ H2 ⟨v2, v3, v4, v5, v6, v7, v8, v9, v10, v11, v12, v13, v14, v15, v16, v17, v18, v19, v20, v21, rfl, P2⟩
      exact q _

end
theorem all_mk {l : PySem.W.OpenLaw} {w : World} {K : PySem.W.Frag} {h : Heap} {mg : Str → Option Value} {fa : Addr} (X : K.In h) (G : h.Ns mainGlobals mg) (hfa : mg "law" = some (.ref fa))
    {C0 : Addr} (cC0 : PySem.W.nsIn K mainGlobals "FieldError" = some (some (.ref C0)))
    (rd0 : PySem.W.readsIn K C0 (.type "type") = true) (ga0 : PySem.W.specialIn K (.ref C0) "__getattribute__" = some (some (.builtin "type.__getattribute__"))) (in0 : PySem.W.findCls K (.ref C0) (.type "type") "__init__" = some (.val (.builtin "ValueError.__init__")))
    (rb0 : PySem.W.subIn K (.ref C0) (.type "BaseException") = some true) (rt0 : PySem.W.typeIn K (.ref C0) = some (.type "type")) (rc0 : PySem.W.hasDictIn K C0 = true)
    {C1 : Addr} (cC1 : PySem.W.nsIn K mainGlobals "NoSetting" = some (some (.ref C1)))
    (kC1 : PySem.W.keepIn K (.ref C1) = true) (eC1 : PySem.W.subIn K (.ref C1) (.type "BaseException") = some true) (tC1 : PySem.W.typeIn K (.ref C1) = some (.type "type")) (uC1 : PySem.W.subIn K (.ref C1) (.ref C0) = some true)
    (xC1 : PySem.W.excIn K C1 [.type "ValueError", .type "Exception", .type "BaseException", .type "object"] "ValueError.__new__" = true)
    {C2 : Addr} (cC2 : PySem.W.nsIn K mainGlobals "NoField" = some (some (.ref C2)))
    (kC2 : PySem.W.keepIn K (.ref C2) = true) (eC2 : PySem.W.subIn K (.ref C2) (.type "BaseException") = some true) (tC2 : PySem.W.typeIn K (.ref C2) = some (.type "type")) (uC2 : PySem.W.subIn K (.ref C2) (.ref C0) = some true)
    (xC2 : PySem.W.excIn K C2 [.type "ValueError", .type "Exception", .type "BaseException", .type "object"] "ValueError.__new__" = true)
    {C3 : Addr} (cC3 : PySem.W.nsIn K mainGlobals "NoValue" = some (some (.ref C3)))
    (kC3 : PySem.W.keepIn K (.ref C3) = true) (eC3 : PySem.W.subIn K (.ref C3) (.type "BaseException") = some true) (tC3 : PySem.W.typeIn K (.ref C3) = some (.type "type")) (uC3 : PySem.W.subIn K (.ref C3) (.ref C0) = some true)
    (xC3 : PySem.W.excIn K C3 [.type "ValueError", .type "Exception", .type "BaseException", .type "object"] "ValueError.__new__" = true)
    {f0 : Addr} {od0 an0 : Option Addr} {sl0 : Array (Option Value)} {oc0 kV0 dc0 pm0 cd0 ct0 : Value}
    (a0 : PySem.W.nsIn K mainGlobals "is_between" = some (some (.ref f0))) (l0 : K.lookup f0 = some ⟨oc0, od0, .func (PySem.W.fnOf "is_between" "is_between" (defArgs s_is_between) (defBody s_is_between) (defScope s_is_between) .none kV0 dc0 pm0 an0 cd0 ct0), sl0⟩) (c0 : PySem.W.codeIn K cd0 "is_between" = true) (k0 : PySem.W.keepIn K (.ref f0) = true)
    {f1 : Addr} {od1 an1 : Option Addr} {sl1 : Array (Option Value)} {oc1 kV1 dc1 pm1 cd1 ct1 : Value}
    (a1 : PySem.W.nsIn K mainGlobals "is_number" = some (some (.ref f1))) (l1 : K.lookup f1 = some ⟨oc1, od1, .func (PySem.W.fnOf "is_number" "is_number" (defArgs s_is_number) (defBody s_is_number) (defScope s_is_number) .none kV1 dc1 pm1 an1 cd1 ct1), sl1⟩) (c1 : PySem.W.codeIn K cd1 "is_number" = true) (k1 : PySem.W.keepIn K (.ref f1) = true)
    {f2 : Addr} {od2 an2 : Option Addr} {sl2 : Array (Option Value)} {oc2 kV2 dc2 pm2 cd2 ct2 : Value}
    (a2 : PySem.W.nsIn K mainGlobals "is_text" = some (some (.ref f2))) (l2 : K.lookup f2 = some ⟨oc2, od2, .func (PySem.W.fnOf "is_text" "is_text" (defArgs s_is_text) (defBody s_is_text) (defScope s_is_text) .none kV2 dc2 pm2 an2 cd2 ct2), sl2⟩) (c2 : PySem.W.codeIn K cd2 "is_text" = true) (k2 : PySem.W.keepIn K (.ref f2) = true)
    {f3 : Addr} {od3 an3 : Option Addr} {sl3 : Array (Option Value)} {oc3 kV3 dc3 pm3 cd3 ct3 : Value}
    (a3 : PySem.W.nsIn K mainGlobals "is_name" = some (some (.ref f3))) (l3 : K.lookup f3 = some ⟨oc3, od3, .func (PySem.W.fnOf "is_name" "is_name" (defArgs s_is_name) (defBody s_is_name) (defScope s_is_name) .none kV3 dc3 pm3 an3 cd3 ct3), sl3⟩) (c3 : PySem.W.codeIn K cd3 "is_name" = true) (k3 : PySem.W.keepIn K (.ref f3) = true)
    {f4 : Addr} {od4 an4 : Option Addr} {sl4 : Array (Option Value)} {oc4 kV4 dc4 pm4 cd4 ct4 : Value}
    (a4 : PySem.W.nsIn K mainGlobals "is_value" = some (some (.ref f4))) (l4 : K.lookup f4 = some ⟨oc4, od4, .func (PySem.W.fnOf "is_value" "is_value" (defArgs s_is_value) (defBody s_is_value) (defScope s_is_value) .none kV4 dc4 pm4 an4 cd4 ct4), sl4⟩) (c4 : PySem.W.codeIn K cd4 "is_value" = true) (k4 : PySem.W.keepIn K (.ref f4) = true)
    {f5 : Addr} {od5 an5 : Option Addr} {sl5 : Array (Option Value)} {oc5 kV5 dc5 pm5 cd5 ct5 : Value}
    (a5 : PySem.W.nsIn K mainGlobals "is_field" = some (some (.ref f5))) (l5 : K.lookup f5 = some ⟨oc5, od5, .func (PySem.W.fnOf "is_field" "is_field" (defArgs s_is_field) (defBody s_is_field) (defScope s_is_field) .none kV5 dc5 pm5 an5 cd5 ct5), sl5⟩) (c5 : PySem.W.codeIn K cd5 "is_field" = true) (k5 : PySem.W.keepIn K (.ref f5) = true)
    {f6 : Addr} {od6 an6 : Option Addr} {sl6 : Array (Option Value)} {oc6 kV6 dc6 pm6 cd6 ct6 : Value}
    (a6 : PySem.W.nsIn K mainGlobals "is_tuple_of_fields" = some (some (.ref f6))) (l6 : K.lookup f6 = some ⟨oc6, od6, .func (PySem.W.fnOf "is_tuple_of_fields" "is_tuple_of_fields" (defArgs s_is_tuple_of_fields) (defBody s_is_tuple_of_fields) (defScope s_is_tuple_of_fields) .none kV6 dc6 pm6 an6 cd6 ct6), sl6⟩) (c6 : PySem.W.codeIn K cd6 "is_tuple_of_fields" = true) (k6 : PySem.W.keepIn K (.ref f6) = true)
    {f7 : Addr} {od7 an7 : Option Addr} {sl7 : Array (Option Value)} {oc7 kV7 dc7 pm7 cd7 ct7 : Value}
    (a7 : PySem.W.nsIn K mainGlobals "are_fields" = some (some (.ref f7))) (l7 : K.lookup f7 = some ⟨oc7, od7, .func (PySem.W.fnOf "are_fields" "are_fields" (defArgs s_are_fields) (defBody s_are_fields) (defScope s_are_fields) .none kV7 dc7 pm7 an7 cd7 ct7), sl7⟩) (c7 : PySem.W.codeIn K cd7 "are_fields" = true) (k7 : PySem.W.keepIn K (.ref f7) = true)
    {f8 : Addr} {od8 an8 : Option Addr} {sl8 : Array (Option Value)} {oc8 kV8 dc8 pm8 cd8 ct8 : Value}
    (a8 : PySem.W.nsIn K mainGlobals "is_setting" = some (some (.ref f8))) (l8 : K.lookup f8 = some ⟨oc8, od8, .func (PySem.W.fnOf "is_setting" "is_setting" (defArgs s_is_setting) (defBody s_is_setting) (defScope s_is_setting) .none kV8 dc8 pm8 an8 cd8 ct8), sl8⟩) (c8 : PySem.W.codeIn K cd8 "is_setting" = true) (k8 : PySem.W.keepIn K (.ref f8) = true)
    {f9 : Addr} {od9 an9 : Option Addr} {sl9 : Array (Option Value)} {oc9 kV9 dc9 pm9 cd9 ct9 : Value}
    (a9 : PySem.W.nsIn K mainGlobals "check_setting" = some (some (.ref f9))) (l9 : K.lookup f9 = some ⟨oc9, od9, .func (PySem.W.fnOf "check_setting" "check_setting" (defArgs s_check_setting) (defBody s_check_setting) (defScope s_check_setting) .none kV9 dc9 pm9 an9 cd9 ct9), sl9⟩) (c9 : PySem.W.codeIn K cd9 "check_setting" = true) (k9 : PySem.W.keepIn K (.ref f9) = true)
    {f10 : Addr} {od10 an10 : Option Addr} {sl10 : Array (Option Value)} {oc10 kV10 dc10 pm10 cd10 ct10 : Value}
    (a10 : PySem.W.nsIn K mainGlobals "check_prefix" = some (some (.ref f10))) (l10 : K.lookup f10 = some ⟨oc10, od10, .func (PySem.W.fnOf "check_prefix" "check_prefix" (defArgs s_check_prefix) (defBody s_check_prefix) (defScope s_check_prefix) .none kV10 dc10 pm10 an10 cd10 ct10), sl10⟩) (c10 : PySem.W.codeIn K cd10 "check_prefix" = true) (k10 : PySem.W.keepIn K (.ref f10) = true)
    {f11 : Addr} {od11 an11 : Option Addr} {sl11 : Array (Option Value)} {oc11 kV11 dc11 pm11 cd11 ct11 : Value}
    (a11 : PySem.W.nsIn K mainGlobals "prefix_bits" = some (some (.ref f11))) (l11 : K.lookup f11 = some ⟨oc11, od11, .func (PySem.W.fnOf "prefix_bits" "prefix_bits" (defArgs s_prefix_bits) (defBody s_prefix_bits) (defScope s_prefix_bits) .none kV11 dc11 pm11 an11 cd11 ct11), sl11⟩) (c11 : PySem.W.codeIn K cd11 "prefix_bits" = true) (k11 : PySem.W.keepIn K (.ref f11) = true)
    {f12 : Addr} {od12 an12 : Option Addr} {sl12 : Array (Option Value)} {oc12 kV12 dc12 pm12 cd12 ct12 : Value}
    (a12 : PySem.W.nsIn K mainGlobals "number_octets" = some (some (.ref f12))) (l12 : K.lookup f12 = some ⟨oc12, od12, .func (PySem.W.fnOf "number_octets" "number_octets" (defArgs s_number_octets) (defBody s_number_octets) (defScope s_number_octets) .none kV12 dc12 pm12 an12 cd12 ct12), sl12⟩) (c12 : PySem.W.codeIn K cd12 "number_octets" = true) (k12 : PySem.W.keepIn K (.ref f12) = true)
    {f13 : Addr} {od13 an13 : Option Addr} {sl13 : Array (Option Value)} {oc13 kV13 dc13 pm13 cd13 ct13 : Value}
    (a13 : PySem.W.nsIn K mainGlobals "string_octets" = some (some (.ref f13))) (l13 : K.lookup f13 = some ⟨oc13, od13, .func (PySem.W.fnOf "string_octets" "string_octets" (defArgs s_string_octets) (defBody s_string_octets) (defScope s_string_octets) .none kV13 dc13 pm13 an13 cd13 ct13), sl13⟩) (c13 : PySem.W.codeIn K cd13 "string_octets" = true) (k13 : PySem.W.keepIn K (.ref f13) = true)
    {f14 : Addr} {od14 an14 : Option Addr} {sl14 : Array (Option Value)} {oc14 kV14 dc14 pm14 cd14 ct14 : Value}
    (a14 : PySem.W.nsIn K mainGlobals "value_octets" = some (some (.ref f14))) (l14 : K.lookup f14 = some ⟨oc14, od14, .func (PySem.W.fnOf "value_octets" "value_octets" (defArgs s_value_octets) (defBody s_value_octets) (defScope s_value_octets) .none kV14 dc14 pm14 an14 cd14 ct14), sl14⟩) (c14 : PySem.W.codeIn K cd14 "value_octets" = true) (k14 : PySem.W.keepIn K (.ref f14) = true)
    {f15 : Addr} {od15 an15 : Option Addr} {sl15 : Array (Option Value)} {oc15 kV15 dc15 pm15 cd15 ct15 : Value}
    (a15 : PySem.W.nsIn K mainGlobals "is_line" = some (some (.ref f15))) (l15 : K.lookup f15 = some ⟨oc15, od15, .func (PySem.W.fnOf "is_line" "is_line" (defArgs s_is_line) (defBody s_is_line) (defScope s_is_line) .none kV15 dc15 pm15 an15 cd15 ct15), sl15⟩) (c15 : PySem.W.codeIn K cd15 "is_line" = true) (k15 : PySem.W.keepIn K (.ref f15) = true)
    {f16 : Addr} {od16 an16 : Option Addr} {sl16 : Array (Option Value)} {oc16 kV16 dc16 pm16 cd16 ct16 : Value}
    (a16 : PySem.W.nsIn K mainGlobals "is_block" = some (some (.ref f16))) (l16 : K.lookup f16 = some ⟨oc16, od16, .func (PySem.W.fnOf "is_block" "is_block" (defArgs s_is_block) (defBody s_is_block) (defScope s_is_block) .none kV16 dc16 pm16 an16 cd16 ct16), sl16⟩) (c16 : PySem.W.codeIn K cd16 "is_block" = true) (k16 : PySem.W.keepIn K (.ref f16) = true)
    {f17 : Addr} {od17 an17 : Option Addr} {sl17 : Array (Option Value)} {oc17 kV17 dc17 pm17 cd17 ct17 : Value}
    (a17 : PySem.W.nsIn K mainGlobals "write_block" = some (some (.ref f17))) (l17 : K.lookup f17 = some ⟨oc17, od17, .func (PySem.W.fnOf "write_block" "write_block" (defArgs s_write_block) (defBody s_write_block) (defScope s_write_block) .none kV17 dc17 pm17 an17 cd17 ct17), sl17⟩) (c17 : PySem.W.codeIn K cd17 "write_block" = true) (k17 : PySem.W.keepIn K (.ref f17) = true)
    {f18 : Addr} {od18 an18 : Option Addr} {sl18 : Array (Option Value)} {oc18 kV18 dc18 pm18 cd18 ct18 : Value}
    (a18 : PySem.W.nsIn K mainGlobals "line_octets" = some (some (.ref f18))) (l18 : K.lookup f18 = some ⟨oc18, od18, .func (PySem.W.fnOf "line_octets" "line_octets" (defArgs s_line_octets) (defBody s_line_octets) (defScope s_line_octets) .none kV18 dc18 pm18 an18 cd18 ct18), sl18⟩) (c18 : PySem.W.codeIn K cd18 "line_octets" = true) (k18 : PySem.W.keepIn K (.ref f18) = true)
    {f19 : Addr} {od19 an19 : Option Addr} {sl19 : Array (Option Value)} {oc19 kV19 dc19 pm19 cd19 ct19 : Value}
    (a19 : PySem.W.nsIn K mainGlobals "whole_octets" = some (some (.ref f19))) (l19 : K.lookup f19 = some ⟨oc19, od19, .func (PySem.W.fnOf "whole_octets" "whole_octets" (defArgs s_whole_octets) (defBody s_whole_octets) (defScope s_whole_octets) .none kV19 dc19 pm19 an19 cd19 ct19), sl19⟩) (c19 : PySem.W.codeIn K cd19 "whole_octets" = true) (k19 : PySem.W.keepIn K (.ref f19) = true)
    {f20 : Addr} {od20 an20 : Option Addr} {sl20 : Array (Option Value)} {oc20 kV20 dc20 pm20 cd20 ct20 : Value}
    (a20 : PySem.W.nsIn K mainGlobals "named_octets" = some (some (.ref f20))) (l20 : K.lookup f20 = some ⟨oc20, od20, .func (PySem.W.fnOf "named_octets" "named_octets" (defArgs s_named_octets) (defBody s_named_octets) (defScope s_named_octets) .none kV20 dc20 pm20 an20 cd20 ct20), sl20⟩) (c20 : PySem.W.codeIn K cd20 "named_octets" = true) (k20 : PySem.W.keepIn K (.ref f20) = true)
    {f21 : Addr} {od21 an21 : Option Addr} {sl21 : Array (Option Value)} {oc21 kV21 dc21 pm21 cd21 ct21 : Value}
    (a21 : PySem.W.nsIn K mainGlobals "are_entries" = some (some (.ref f21))) (l21 : K.lookup f21 = some ⟨oc21, od21, .func (PySem.W.fnOf "are_entries" "are_entries" (defArgs s_are_entries) (defBody s_are_entries) (defScope s_are_entries) .none kV21 dc21 pm21 an21 cd21 ct21), sl21⟩) (c21 : PySem.W.codeIn K cd21 "are_entries" = true) (k21 : PySem.W.keepIn K (.ref f21) = true)
    {f22 : Addr} {od22 an22 : Option Addr} {sl22 : Array (Option Value)} {oc22 kV22 dc22 pm22 cd22 ct22 : Value}
    (a22 : PySem.W.nsIn K mainGlobals "check_entries" = some (some (.ref f22))) (l22 : K.lookup f22 = some ⟨oc22, od22, .func (PySem.W.fnOf "check_entries" "check_entries" (defArgs s_check_entries) (defBody s_check_entries) (defScope s_check_entries) .none kV22 dc22 pm22 an22 cd22 ct22), sl22⟩) (c22 : PySem.W.codeIn K cd22 "check_entries" = true) (k22 : PySem.W.keepIn K (.ref f22) = true)
    {f23 : Addr} {od23 an23 : Option Addr} {sl23 : Array (Option Value)} {oc23 kV23 dc23 pm23 cd23 ct23 : Value}
    (a23 : PySem.W.nsIn K mainGlobals "says" = some (some (.ref f23))) (l23 : K.lookup f23 = some ⟨oc23, od23, .func (PySem.W.fnOf "says" "says" (defArgs s_says) (defBody s_says) (defScope s_says) .none kV23 dc23 pm23 an23 cd23 ct23), sl23⟩) (c23 : PySem.W.codeIn K cd23 "says" = true) (k23 : PySem.W.keepIn K (.ref f23) = true)
    {f24 : Addr} {od24 an24 : Option Addr} {sl24 : Array (Option Value)} {oc24 kV24 dc24 pm24 cd24 ct24 : Value}
    (a24 : PySem.W.nsIn K mainGlobals "said_fields" = some (some (.ref f24))) (l24 : K.lookup f24 = some ⟨oc24, od24, .func (PySem.W.fnOf "said_fields" "said_fields" (defArgs s_said_fields) (defBody s_said_fields) (defScope s_said_fields) .none kV24 dc24 pm24 an24 cd24 ct24), sl24⟩) (c24 : PySem.W.codeIn K cd24 "said_fields" = true) (k24 : PySem.W.keepIn K (.ref f24) = true)
    {f25 : Addr} {od25 an25 : Option Addr} {sl25 : Array (Option Value)} {oc25 kV25 dc25 pm25 cd25 ct25 : Value}
    (a25 : PySem.W.nsIn K mainGlobals "said_field" = some (some (.ref f25))) (l25 : K.lookup f25 = some ⟨oc25, od25, .func (PySem.W.fnOf "said_field" "said_field" (defArgs s_said_field) (defBody s_said_field) (defScope s_said_field) .none kV25 dc25 pm25 an25 cd25 ct25), sl25⟩) (c25 : PySem.W.codeIn K cd25 "said_field" = true) (k25 : PySem.W.keepIn K (.ref f25) = true)
    {f26 : Addr} {od26 an26 : Option Addr} {sl26 : Array (Option Value)} {oc26 kV26 dc26 pm26 cd26 ct26 : Value}
    (a26 : PySem.W.nsIn K mainGlobals "referred" = some (some (.ref f26))) (l26 : K.lookup f26 = some ⟨oc26, od26, .func (PySem.W.fnOf "referred" "referred" (defArgs s_referred) (defBody s_referred) (defScope s_referred) .none kV26 dc26 pm26 an26 cd26 ct26), sl26⟩) (c26 : PySem.W.codeIn K cd26 "referred" = true) (k26 : PySem.W.keepIn K (.ref f26) = true)
    {f27 : Addr} {od27 an27 : Option Addr} {sl27 : Array (Option Value)} {oc27 kV27 dc27 pm27 cd27 ct27 : Value}
    (a27 : PySem.W.nsIn K mainGlobals "shortest" = some (some (.ref f27))) (l27 : K.lookup f27 = some ⟨oc27, od27, .func (PySem.W.fnOf "shortest" "shortest" (defArgs s_shortest) (defBody s_shortest) (defScope s_shortest) .none kV27 dc27 pm27 an27 cd27 ct27), sl27⟩) (c27 : PySem.W.codeIn K cd27 "shortest" = true) (k27 : PySem.W.keepIn K (.ref f27) = true)
    {f28 : Addr} {od28 an28 : Option Addr} {sl28 : Array (Option Value)} {oc28 kV28 dc28 pm28 cd28 ct28 : Value}
    (a28 : PySem.W.nsIn K mainGlobals "checked_lengths" = some (some (.ref f28))) (l28 : K.lookup f28 = some ⟨oc28, od28, .func (PySem.W.fnOf "checked_lengths" "checked_lengths" (defArgs s_checked_lengths) (defBody s_checked_lengths) (defScope s_checked_lengths) .none kV28 dc28 pm28 an28 cd28 ct28), sl28⟩) (c28 : PySem.W.codeIn K cd28 "checked_lengths" = true) (k28 : PySem.W.keepIn K (.ref f28) = true)
    {f29 : Addr} {od29 an29 : Option Addr} {sl29 : Array (Option Value)} {oc29 kV29 dc29 pm29 cd29 ct29 : Value}
    (a29 : PySem.W.nsIn K mainGlobals "fewest_octets" = some (some (.ref f29))) (l29 : K.lookup f29 = some ⟨oc29, od29, .func (PySem.W.fnOf "fewest_octets" "fewest_octets" (defArgs s_fewest_octets) (defBody s_fewest_octets) (defScope s_fewest_octets) .none kV29 dc29 pm29 an29 cd29 ct29), sl29⟩) (c29 : PySem.W.codeIn K cd29 "fewest_octets" = true) (k29 : PySem.W.keepIn K (.ref f29) = true)
    {f30 : Addr} {od30 an30 : Option Addr} {sl30 : Array (Option Value)} {oc30 kV30 dc30 pm30 cd30 ct30 : Value}
    (a30 : PySem.W.nsIn K mainGlobals "best_pair" = some (some (.ref f30))) (l30 : K.lookup f30 = some ⟨oc30, od30, .func (PySem.W.fnOf "best_pair" "best_pair" (defArgs s_best_pair) (defBody s_best_pair) (defScope s_best_pair) .none kV30 dc30 pm30 an30 cd30 ct30), sl30⟩) (c30 : PySem.W.codeIn K cd30 "best_pair" = true) (k30 : PySem.W.keepIn K (.ref f30) = true)
    {f31 : Addr} {od31 an31 : Option Addr} {sl31 : Array (Option Value)} {oc31 kV31 dc31 pm31 cd31 ct31 : Value}
    (a31 : PySem.W.nsIn K mainGlobals "best_block" = some (some (.ref f31))) (l31 : K.lookup f31 = some ⟨oc31, od31, .func (PySem.W.fnOf "best_block" "best_block" (defArgs s_best_block) (defBody s_best_block) (defScope s_best_block) .none kV31 dc31 pm31 an31 cd31 ct31), sl31⟩) (c31 : PySem.W.codeIn K cd31 "best_block" = true) (k31 : PySem.W.keepIn K (.ref f31) = true)
    {f32 : Addr} {od32 an32 : Option Addr} {sl32 : Array (Option Value)} {oc32 kV32 dc32 pm32 cd32 ct32 : Value}
    (a32 : PySem.W.nsIn K mainGlobals "best_choice" = some (some (.ref f32))) (l32 : K.lookup f32 = some ⟨oc32, od32, .func (PySem.W.fnOf "best_choice" "best_choice" (defArgs s_best_choice) (defBody s_best_choice) (defScope s_best_choice) .none kV32 dc32 pm32 an32 cd32 ct32), sl32⟩) (c32 : PySem.W.codeIn K cd32 "best_choice" = true) (k32 : PySem.W.keepIn K (.ref f32) = true)
    {f33 : Addr} {od33 an33 : Option Addr} {sl33 : Array (Option Value)} {oc33 kV33 dc33 pm33 cd33 ct33 : Value}
    (a33 : PySem.W.nsIn K mainGlobals "best_choices" = some (some (.ref f33))) (l33 : K.lookup f33 = some ⟨oc33, od33, .func (PySem.W.fnOf "best_choices" "best_choices" (defArgs s_best_choices) (defBody s_best_choices) (defScope s_best_choices) .none kV33 dc33 pm33 an33 cd33 ct33), sl33⟩) (c33 : PySem.W.codeIn K cd33 "best_choices" = true) (k33 : PySem.W.keepIn K (.ref f33) = true)
    {f34 : Addr} {od34 an34 : Option Addr} {sl34 : Array (Option Value)} {oc34 kV34 dc34 pm34 cd34 ct34 : Value}
    (a34 : PySem.W.nsIn K mainGlobals "line_choices" = some (some (.ref f34))) (l34 : K.lookup f34 = some ⟨oc34, od34, .func (PySem.W.fnOf "line_choices" "line_choices" (defArgs s_line_choices) (defBody s_line_choices) (defScope s_line_choices) .none kV34 dc34 pm34 an34 cd34 ct34), sl34⟩) (c34 : PySem.W.codeIn K cd34 "line_choices" = true) (k34 : PySem.W.keepIn K (.ref f34) = true)
    {f35 : Addr} {od35 an35 : Option Addr} {sl35 : Array (Option Value)} {oc35 kV35 dc35 pm35 cd35 ct35 : Value}
    (a35 : PySem.W.nsIn K mainGlobals "referable" = some (some (.ref f35))) (l35 : K.lookup f35 = some ⟨oc35, od35, .func (PySem.W.fnOf "referable" "referable" (defArgs s_referable) (defBody s_referable) (defScope s_referable) .none kV35 dc35 pm35 an35 cd35 ct35), sl35⟩) (c35 : PySem.W.codeIn K cd35 "referable" = true) (k35 : PySem.W.keepIn K (.ref f35) = true)
    {f36 : Addr} {od36 an36 : Option Addr} {sl36 : Array (Option Value)} {oc36 kV36 dc36 pm36 cd36 ct36 : Value}
    (a36 : PySem.W.nsIn K mainGlobals "_law_open" = some (some (.ref f36))) (l36 : K.lookup f36 = some ⟨oc36, od36, .func (PySem.W.fnOf "_law_open" "_law_open" (defArgs s_law_open) (defBody s_law_open) (defScope s_law_open) .none kV36 dc36 pm36 an36 cd36 ct36), sl36⟩) (c36 : PySem.W.codeIn K cd36 "_law_open" = true) (k36 : PySem.W.keepIn K (.ref f36) = true)
    {f37 : Addr} {od37 an37 : Option Addr} {sl37 : Array (Option Value)} {oc37 kV37 dc37 pm37 cd37 ct37 : Value}
    (a37 : PySem.W.nsIn K mainGlobals "_law_spread" = some (some (.ref f37))) (l37 : K.lookup f37 = some ⟨oc37, od37, .func (PySem.W.fnOf "_law_spread" "_law_spread" (defArgs s_law_spread) (defBody s_law_spread) (defScope s_law_spread) .none kV37 dc37 pm37 an37 cd37 ct37), sl37⟩) (c37 : PySem.W.codeIn K cd37 "_law_spread" = true) (k37 : PySem.W.keepIn K (.ref f37) = true)
    {f38 : Addr} {od38 an38 : Option Addr} {sl38 : Array (Option Value)} {oc38 kV38 dc38 pm38 cd38 ct38 : Value}
    (a38 : PySem.W.nsIn K mainGlobals "_law_take" = some (some (.ref f38))) (l38 : K.lookup f38 = some ⟨oc38, od38, .func (PySem.W.fnOf "_law_take" "_law_take" (defArgs s_law_take) (defBody s_law_take) (defScope s_law_take) .none kV38 dc38 pm38 an38 cd38 ct38), sl38⟩) (c38 : PySem.W.codeIn K cd38 "_law_take" = true) (k38 : PySem.W.keepIn K (.ref f38) = true)
    {f39 : Addr} {od39 an39 : Option Addr} {sl39 : Array (Option Value)} {oc39 kV39 dc39 pm39 cd39 ct39 : Value}
    (a39 : PySem.W.nsIn K mainGlobals "_law_one_of" = some (some (.ref f39))) (l39 : K.lookup f39 = some ⟨oc39, od39, .func (PySem.W.fnOf "_law_one_of" "_law_one_of" (defArgs s_law_one_of) (defBody s_law_one_of) (defScope s_law_one_of) .none kV39 dc39 pm39 an39 cd39 ct39), sl39⟩) (c39 : PySem.W.codeIn K cd39 "_law_one_of" = true) (k39 : PySem.W.keepIn K (.ref f39) = true)
    {f40 : Addr} {od40 an40 : Option Addr} {sl40 : Array (Option Value)} {oc40 kV40 dc40 pm40 cd40 ct40 : Value}
    (a40 : PySem.W.nsIn K mainGlobals "_law_signs" = some (some (.ref f40))) (l40 : K.lookup f40 = some ⟨oc40, od40, .func (PySem.W.fnOf "_law_signs" "_law_signs" (defArgs s_law_signs) (defBody s_law_signs) (defScope s_law_signs) .none kV40 dc40 pm40 an40 cd40 ct40), sl40⟩) (c40 : PySem.W.codeIn K cd40 "_law_signs" = true) (k40 : PySem.W.keepIn K (.ref f40) = true)
    {f41 : Addr} {od41 an41 : Option Addr} {sl41 : Array (Option Value)} {oc41 kV41 dc41 pm41 cd41 ct41 : Value}
    (a41 : PySem.W.nsIn K mainGlobals "_law_draw_text" = some (some (.ref f41))) (l41 : K.lookup f41 = some ⟨oc41, od41, .func (PySem.W.fnOf "_law_draw_text" "_law_draw_text" (defArgs s_law_draw_text) (defBody s_law_draw_text) (defScope s_law_draw_text) .none kV41 dc41 pm41 an41 cd41 ct41), sl41⟩) (c41 : PySem.W.codeIn K cd41 "_law_draw_text" = true) (k41 : PySem.W.keepIn K (.ref f41) = true)
    {f42 : Addr} {od42 an42 : Option Addr} {sl42 : Array (Option Value)} {oc42 kV42 dc42 pm42 cd42 ct42 : Value}
    (a42 : PySem.W.nsIn K mainGlobals "_law_draw_near_field" = some (some (.ref f42))) (l42 : K.lookup f42 = some ⟨oc42, od42, .func (PySem.W.fnOf "_law_draw_near_field" "_law_draw_near_field" (defArgs s_law_draw_near_field) (defBody s_law_draw_near_field) (defScope s_law_draw_near_field) .none kV42 dc42 pm42 an42 cd42 ct42), sl42⟩) (c42 : PySem.W.codeIn K cd42 "_law_draw_near_field" = true) (k42 : PySem.W.keepIn K (.ref f42) = true)
    {f43 : Addr} {od43 an43 : Option Addr} {sl43 : Array (Option Value)} {oc43 kV43 dc43 pm43 cd43 ct43 : Value}
    (a43 : PySem.W.nsIn K mainGlobals "_law_draw_setting" = some (some (.ref f43))) (l43 : K.lookup f43 = some ⟨oc43, od43, .func (PySem.W.fnOf "_law_draw_setting" "_law_draw_setting" (defArgs s_law_draw_setting) (defBody s_law_draw_setting) (defScope s_law_draw_setting) .none kV43 dc43 pm43 an43 cd43 ct43), sl43⟩) (c43 : PySem.W.codeIn K cd43 "_law_draw_setting" = true) (k43 : PySem.W.keepIn K (.ref f43) = true)
    {f44 : Addr} {od44 an44 : Option Addr} {sl44 : Array (Option Value)} {oc44 kV44 dc44 pm44 cd44 ct44 : Value}
    (a44 : PySem.W.nsIn K mainGlobals "_law_draw_entries" = some (some (.ref f44))) (l44 : K.lookup f44 = some ⟨oc44, od44, .func (PySem.W.fnOf "_law_draw_entries" "_law_draw_entries" (defArgs s_law_draw_entries) (defBody s_law_draw_entries) (defScope s_law_draw_entries) .none kV44 dc44 pm44 an44 cd44 ct44), sl44⟩) (c44 : PySem.W.codeIn K cd44 "_law_draw_entries" = true) (k44 : PySem.W.keepIn K (.ref f44) = true)
    {f45 : Addr} {od45 an45 : Option Addr} {sl45 : Array (Option Value)} {oc45 kV45 dc45 pm45 cd45 ct45 : Value}
    (a45 : PySem.W.nsIn K mainGlobals "_law_draw_saying" = some (some (.ref f45))) (l45 : K.lookup f45 = some ⟨oc45, od45, .func (PySem.W.fnOf "_law_draw_saying" "_law_draw_saying" (defArgs s_law_draw_saying) (defBody s_law_draw_saying) (defScope s_law_draw_saying) .none kV45 dc45 pm45 an45 cd45 ct45), sl45⟩) (c45 : PySem.W.codeIn K cd45 "_law_draw_saying" = true) (k45 : PySem.W.keepIn K (.ref f45) = true)
    {f46 : Addr} {od46 an46 : Option Addr} {sl46 : Array (Option Value)} {oc46 kV46 dc46 pm46 cd46 ct46 : Value}
    (a46 : PySem.W.nsIn K mainGlobals "_law_lines_for" = some (some (.ref f46))) (l46 : K.lookup f46 = some ⟨oc46, od46, .func (PySem.W.fnOf "_law_lines_for" "_law_lines_for" (defArgs s_law_lines_for) (defBody s_law_lines_for) (defScope s_law_lines_for) .none kV46 dc46 pm46 an46 cd46 ct46), sl46⟩) (c46 : PySem.W.codeIn K cd46 "_law_lines_for" = true) (k46 : PySem.W.keepIn K (.ref f46) = true)
    {f47 : Addr} {od47 an47 : Option Addr} {sl47 : Array (Option Value)} {oc47 kV47 dc47 pm47 cd47 ct47 : Value}
    (a47 : PySem.W.nsIn K mainGlobals "_law_draw_lines_for" = some (some (.ref f47))) (l47 : K.lookup f47 = some ⟨oc47, od47, .func (PySem.W.fnOf "_law_draw_lines_for" "_law_draw_lines_for" (defArgs s_law_draw_lines_for) (defBody s_law_draw_lines_for) (defScope s_law_draw_lines_for) .none kV47 dc47 pm47 an47 cd47 ct47), sl47⟩) (c47 : PySem.W.codeIn K cd47 "_law_draw_lines_for" = true) (k47 : PySem.W.keepIn K (.ref f47) = true)
    {f48 : Addr} {od48 an48 : Option Addr} {sl48 : Array (Option Value)} {oc48 kV48 dc48 pm48 cd48 ct48 : Value}
    (a48 : PySem.W.nsIn K mainGlobals "law" = some (some (.ref f48))) (l48 : K.lookup f48 = some ⟨oc48, od48, .func (PySem.W.fnOf "law" "law" (defArgs s_law) (defBody s_law) (defScope s_law) .none kV48 dc48 pm48 an48 cd48 ct48), sl48⟩) (c48 : PySem.W.codeIn K cd48 "law" = true) (k48 : PySem.W.keepIn K (.ref f48) = true)
    {tk0 : Tok} (v0 : PySem.W.nsIn K mainGlobals "NUMBER_MOST" = some (some (.int 9999 tk0)))
    {tk1 : Tok} (v1 : PySem.W.nsIn K mainGlobals "NAME_MOST" = some (some (.int 20 tk1)))
    {tk2 : Tok} (v2 : PySem.W.nsIn K mainGlobals "VALUE_MOST" = some (some (.int 40 tk2)))
    {tk3 : Tok} (v3 : PySem.W.nsIn K mainGlobals "FIELDS_MOST" = some (some (.int 16 tk3)))
    {tk4 : Tok} (v4 : PySem.W.nsIn K mainGlobals "FIXED_MOST" = some (some (.int 12 tk4)))
    {tk5 : Tok} (v5 : PySem.W.nsIn K mainGlobals "ROOM_MOST" = some (some (.int 120 tk5)))
    {tk6 : Tok} (v6 : PySem.W.nsIn K mainGlobals "WAITING_MOST" = some (some (.int 4 tk6)))
    {tk7 : Tok} (v7 : PySem.W.nsIn K mainGlobals "VALUE_PREFIX" = some (some (.int 7 tk7)))
    {ad8 : Addr} {es8 : Array DictEntry} {nd8 : Nat} (v8 : PySem.W.nsIn K mainGlobals "CHARACTERS" = some (some (.ref ad8))) (w8 : K.lookup ad8 = some ⟨.type "dict", none, .dict es8 nd8, #[]⟩) (e8 : EntI es8.toList chars) (q8 : (ad8 == sysModules) = false)
    {tk9 : Tok} (v9 : PySem.W.nsIn K mainGlobals "LINES_MOST" = some (some (.int 16 tk9)))
    {tk10 : Tok} (v10 : PySem.W.nsIn K mainGlobals "ENTRIES_MOST" = some (some (.int 24 tk10)))
    {tk11 : Tok} (v11 : PySem.W.nsIn K mainGlobals "ENTRY_MOST" = some (some (.int 40 tk11)))
    (z0 : PySem.W.nsIn K mainGlobals "all" = some none)
    (z1 : PySem.W.nsIn K mainGlobals "bool" = some none)
    (z2 : PySem.W.nsIn K mainGlobals "dict" = some none)
    (z3 : PySem.W.nsIn K mainGlobals "enumerate" = some none)
    (z4 : PySem.W.nsIn K mainGlobals "int" = some none)
    (z5 : PySem.W.nsIn K mainGlobals "isinstance" = some none)
    (z6 : PySem.W.nsIn K mainGlobals "len" = some none)
    (z7 : PySem.W.nsIn K mainGlobals "list" = some none)
    (z8 : PySem.W.nsIn K mainGlobals "max" = some none)
    (z9 : PySem.W.nsIn K mainGlobals "min" = some none)
    (z10 : PySem.W.nsIn K mainGlobals "ord" = some none)
    (z11 : PySem.W.nsIn K mainGlobals "range" = some none)
    (z12 : PySem.W.nsIn K mainGlobals "sorted" = some none)
    (z13 : PySem.W.nsIn K mainGlobals "str" = some none)
    (z14 : PySem.W.nsIn K mainGlobals "sum" = some none)
    (z15 : PySem.W.nsIn K mainGlobals "tuple" = some none)
    : ∃ fd : FuncData, (∀ (s : Shared) (v : Value), BindsTo s fd ⟨[v], []⟩ [("script", v)]) ∧ ∀ base : Heap, K.In base → base.Ns mainGlobals mg → FnOk l.prog w K mg base CX0 12 fa fd ["script"] (spLaw K) := by
  have e := hfa.symm.trans (PySem.W.mg_of X G a48)
  cases e
  have F0 := fun_mk (st := s_is_between) l0 c0 k0
  have b0 := F0.binds (ps := ["thing", "least", "most"]) fun _ _ _ _ _ _ us hl => match us, hl with | [_, _, _], _ => rfl
  have F1 := fun_mk (st := s_is_number) l1 c1 k1
  have b1 := F1.binds (ps := ["thing"]) fun _ _ _ _ _ _ us hl => match us, hl with | [_], _ => rfl
  have F2 := fun_mk (st := s_is_text) l2 c2 k2
  have b2 := F2.binds (ps := ["thing", "least", "most"]) fun _ _ _ _ _ _ us hl => match us, hl with | [_, _, _], _ => rfl
  have F3 := fun_mk (st := s_is_name) l3 c3 k3
  have b3 := F3.binds (ps := ["thing"]) fun _ _ _ _ _ _ us hl => match us, hl with | [_], _ => rfl
  have F4 := fun_mk (st := s_is_value) l4 c4 k4
  have b4 := F4.binds (ps := ["thing"]) fun _ _ _ _ _ _ us hl => match us, hl with | [_], _ => rfl
  have F5 := fun_mk (st := s_is_field) l5 c5 k5
  have b5 := F5.binds (ps := ["thing"]) fun _ _ _ _ _ _ us hl => match us, hl with | [_], _ => rfl
  have F6 := fun_mk (st := s_is_tuple_of_fields) l6 c6 k6
  have b6 := F6.binds (ps := ["thing", "most"]) fun _ _ _ _ _ _ us hl => match us, hl with | [_, _], _ => rfl
  have F7 := fun_mk (st := s_are_fields) l7 c7 k7
  have b7 := F7.binds (ps := ["thing"]) fun _ _ _ _ _ _ us hl => match us, hl with | [_], _ => rfl
  have F8 := fun_mk (st := s_is_setting) l8 c8 k8
  have b8 := F8.binds (ps := ["thing"]) fun _ _ _ _ _ _ us hl => match us, hl with | [_], _ => rfl
  have F9 := fun_mk (st := s_check_setting) l9 c9 k9
  have b9 := F9.binds (ps := ["setting"]) fun _ _ _ _ _ _ us hl => match us, hl with | [_], _ => rfl
  have F10 := fun_mk (st := s_check_prefix) l10 c10 k10
  have b10 := F10.binds (ps := ["prefix", "mark"]) fun _ _ _ _ _ _ us hl => match us, hl with | [_, _], _ => rfl
  have F11 := fun_mk (st := s_prefix_bits) l11 c11 k11
  have b11 := F11.binds (ps := ["prefix"]) fun _ _ _ _ _ _ us hl => match us, hl with | [_], _ => rfl
  have F12 := fun_mk (st := s_number_octets) l12 c12 k12
  have b12 := F12.binds (ps := ["number", "prefix", "mark"]) fun _ _ _ _ _ _ us hl => match us, hl with | [_, _, _], _ => rfl
  have F13 := fun_mk (st := s_string_octets) l13 c13 k13
  have b13 := F13.binds (ps := ["text", "prefix", "mark"]) fun _ _ _ _ _ _ us hl => match us, hl with | [_, _, _], _ => rfl
  have F14 := fun_mk (st := s_value_octets) l14 c14 k14
  have b14 := F14.binds (ps := ["value"]) fun _ _ _ _ _ _ us hl => match us, hl with | [_], _ => rfl
  have F15 := fun_mk (st := s_is_line) l15 c15 k15
  have b15 := F15.binds (ps := ["thing", "required"]) fun _ _ _ _ _ _ us hl => match us, hl with | [_, _], _ => rfl
  have F16 := fun_mk (st := s_is_block) l16 c16 k16
  have b16 := F16.binds (ps := ["thing"]) fun _ _ _ _ _ _ us hl => match us, hl with | [_], _ => rfl
  have F17 := fun_mk (st := s_write_block) l17 c17 k17
  have b17 := F17.binds (ps := ["block"]) fun _ _ _ _ _ _ us hl => match us, hl with | [_], _ => rfl
  have F18 := fun_mk (st := s_line_octets) l18 c18 k18
  have b18 := F18.binds (ps := ["line", "base"]) fun _ _ _ _ _ _ us hl => match us, hl with | [_, _], _ => rfl
  have F19 := fun_mk (st := s_whole_octets) l19 c19 k19
  have b19 := F19.binds (ps := ["kind", "number", "base"]) fun _ _ _ _ _ _ us hl => match us, hl with | [_, _, _], _ => rfl
  have F20 := fun_mk (st := s_named_octets) l20 c20 k20
  have b20 := F20.binds (ps := ["kind", "number", "base"]) fun _ _ _ _ _ _ us hl => match us, hl with | [_, _, _], _ => rfl
  have F21 := fun_mk (st := s_are_entries) l21 c21 k21
  have b21 := F21.binds (ps := ["thing"]) fun _ _ _ _ _ _ us hl => match us, hl with | [_], _ => rfl
  have F22 := fun_mk (st := s_check_entries) l22 c22 k22
  have b22 := F22.binds (ps := ["entries"]) fun _ _ _ _ _ _ us hl => match us, hl with | [_], _ => rfl
  have F23 := fun_mk (st := s_says) l23 c23 k23
  have b23 := F23.binds (ps := ["setting", "entries", "block"]) fun _ _ _ _ _ _ us hl => match us, hl with | [_, _, _], _ => rfl
  have F24 := fun_mk (st := s_said_fields) l24 c24 k24
  have b24 := F24.binds (ps := ["fixed", "entries", "lines"]) fun _ _ _ _ _ _ us hl => match us, hl with | [_, _, _], _ => rfl
  have F25 := fun_mk (st := s_said_field) l25 c25 k25
  have b25 := F25.binds (ps := ["fixed", "entries", "line"]) fun _ _ _ _ _ _ us hl => match us, hl with | [_, _, _], _ => rfl
  have F26 := fun_mk (st := s_referred) l26 c26 k26
  have b26 := F26.binds (ps := ["fixed", "entries", "kind", "number"]) fun _ _ _ _ _ _ us hl => match us, hl with | [_, _, _, _], _ => rfl
  have F27 := fun_mk (st := s_shortest) l27 c27 k27
  have b27 := F27.binds (ps := ["setting", "entries", "fields"]) fun _ _ _ _ _ _ us hl => match us, hl with | [_, _, _], _ => rfl
  have F28 := fun_mk (st := s_checked_lengths) l28 c28 k28
  have b28 := F28.binds (ps := ["setting", "entries", "fields"]) fun _ _ _ _ _ _ us hl => match us, hl with | [_, _, _], _ => rfl
  have F29 := fun_mk (st := s_fewest_octets) l29 c29 k29
  have b29 := F29.binds (ps := ["fixed", "entries", "fields", "lowest"]) fun _ _ _ _ _ _ us hl => match us, hl with | [_, _, _, _], _ => rfl
  have F30 := fun_mk (st := s_best_pair) l30 c30 k30
  have b30 := F30.binds (ps := ["lengths"]) fun _ _ _ _ _ _ us hl => match us, hl with | [_], _ => rfl
  have F31 := fun_mk (st := s_best_block) l31 c31 k31
  have b31 := F31.binds (ps := ["fixed", "entries", "fields", "required", "base"]) fun _ _ _ _ _ _ us hl => match us, hl with | [_, _, _, _, _], _ => rfl
  have F32 := fun_mk (st := s_best_choice) l32 c32 k32
  have b32 := F32.binds (ps := ["choices", "required"]) fun _ _ _ _ _ _ us hl => match us, hl with | [_, _], _ => rfl
  have F33 := fun_mk (st := s_best_choices) l33 c33 k33
  have b33 := F33.binds (ps := ["fixed", "entries", "field", "base"]) fun _ _ _ _ _ _ us hl => match us, hl with | [_, _, _, _], _ => rfl
  have F34 := fun_mk (st := s_line_choices) l34 c34 k34
  have b34 := F34.binds (ps := ["fixed", "entries", "field", "base"]) fun _ _ _ _ _ _ us hl => match us, hl with | [_, _, _, _], _ => rfl
  have F35 := fun_mk (st := s_referable) l35 c35 k35
  have b35 := F35.binds (ps := ["fixed", "entries"]) fun _ _ _ _ _ _ us hl => match us, hl with | [_, _], _ => rfl
  have F36 := fun_mk (st := s_law_open) l36 c36 k36
  have b36 := F36.binds (ps := ["script"]) fun _ _ _ _ _ _ us hl => match us, hl with | [_], _ => rfl
  have F37 := fun_mk (st := s_law_spread) l37 c37 k37
  have b37 := F37.binds (ps := ["cell", "at"]) fun _ _ _ _ _ _ us hl => match us, hl with | [_, _], _ => rfl
  have F38 := fun_mk (st := s_law_take) l38 c38 k38
  have b38 := F38.binds (ps := ["pen", "amount"]) fun _ _ _ _ _ _ us hl => match us, hl with | [_, _], _ => rfl
  have F39 := fun_mk (st := s_law_one_of) l39 c39 k39
  have b39 := F39.binds (ps := ["pen", "some"]) fun _ _ _ _ _ _ us hl => match us, hl with | [_, _], _ => rfl
  have F40 := fun_mk (st := s_law_signs) l40 c40 k40
  have b40 := F40.binds (ps := []) fun _ _ _ _ _ _ us hl => match us, hl with | [], _ => rfl
  have F41 := fun_mk (st := s_law_draw_text) l41 c41 k41
  have b41 := F41.binds (ps := ["pen", "least", "most"]) fun _ _ _ _ _ _ us hl => match us, hl with | [_, _, _], _ => rfl
  have F42 := fun_mk (st := s_law_draw_near_field) l42 c42 k42
  have b42 := F42.binds (ps := ["pen"]) fun _ _ _ _ _ _ us hl => match us, hl with | [_], _ => rfl
  have F43 := fun_mk (st := s_law_draw_setting) l43 c43 k43
  have b43 := F43.binds (ps := ["pen"]) fun _ _ _ _ _ _ us hl => match us, hl with | [_], _ => rfl
  have F44 := fun_mk (st := s_law_draw_entries) l44 c44 k44
  have b44 := F44.binds (ps := ["pen"]) fun _ _ _ _ _ _ us hl => match us, hl with | [_], _ => rfl
  have F45 := fun_mk (st := s_law_draw_saying) l45 c45 k45
  have b45 := F45.binds (ps := ["pen", "fixed", "entries"]) fun _ _ _ _ _ _ us hl => match us, hl with | [_, _, _], _ => rfl
  have F46 := fun_mk (st := s_law_lines_for) l46 c46 k46
  have b46 := F46.binds (ps := ["field", "fixed", "entries", "required"]) fun _ _ _ _ _ _ us hl => match us, hl with | [_, _, _, _], _ => rfl
  have F47 := fun_mk (st := s_law_draw_lines_for) l47 c47 k47
  have b47 := F47.binds (ps := ["pen", "fixed", "entries", "fields", "required"]) fun _ _ _ _ _ _ us hl => match us, hl with | [_, _, _, _, _], _ => rfl
  have F48 := fun_mk (st := s_law) l48 c48 k48
  have b48 := F48.binds (ps := ["script"]) fun _ _ _ _ _ _ us hl => match us, hl with | [_], _ => rfl
  let T : Txt K mg := {
    f_is_between := f0
    d_is_between := _
    F_is_between := F0
    b_is_between := b0
    g_is_between := PySem.W.mg_of X G a0
    f_is_number := f1
    d_is_number := _
    F_is_number := F1
    b_is_number := b1
    g_is_number := PySem.W.mg_of X G a1
    f_is_text := f2
    d_is_text := _
    F_is_text := F2
    b_is_text := b2
    g_is_text := PySem.W.mg_of X G a2
    f_is_name := f3
    d_is_name := _
    F_is_name := F3
    b_is_name := b3
    g_is_name := PySem.W.mg_of X G a3
    f_is_value := f4
    d_is_value := _
    F_is_value := F4
    b_is_value := b4
    g_is_value := PySem.W.mg_of X G a4
    f_is_field := f5
    d_is_field := _
    F_is_field := F5
    b_is_field := b5
    g_is_field := PySem.W.mg_of X G a5
    f_is_tuple_of_fields := f6
    d_is_tuple_of_fields := _
    F_is_tuple_of_fields := F6
    b_is_tuple_of_fields := b6
    g_is_tuple_of_fields := PySem.W.mg_of X G a6
    f_are_fields := f7
    d_are_fields := _
    F_are_fields := F7
    b_are_fields := b7
    g_are_fields := PySem.W.mg_of X G a7
    f_is_setting := f8
    d_is_setting := _
    F_is_setting := F8
    b_is_setting := b8
    g_is_setting := PySem.W.mg_of X G a8
    f_check_setting := f9
    d_check_setting := _
    F_check_setting := F9
    b_check_setting := b9
    g_check_setting := PySem.W.mg_of X G a9
    f_check_prefix := f10
    d_check_prefix := _
    F_check_prefix := F10
    b_check_prefix := b10
    g_check_prefix := PySem.W.mg_of X G a10
    f_prefix_bits := f11
    d_prefix_bits := _
    F_prefix_bits := F11
    b_prefix_bits := b11
    g_prefix_bits := PySem.W.mg_of X G a11
    f_number_octets := f12
    d_number_octets := _
    F_number_octets := F12
    b_number_octets := b12
    g_number_octets := PySem.W.mg_of X G a12
    f_string_octets := f13
    d_string_octets := _
    F_string_octets := F13
    b_string_octets := b13
    g_string_octets := PySem.W.mg_of X G a13
    f_value_octets := f14
    d_value_octets := _
    F_value_octets := F14
    b_value_octets := b14
    g_value_octets := PySem.W.mg_of X G a14
    f_is_line := f15
    d_is_line := _
    F_is_line := F15
    b_is_line := b15
    g_is_line := PySem.W.mg_of X G a15
    f_is_block := f16
    d_is_block := _
    F_is_block := F16
    b_is_block := b16
    g_is_block := PySem.W.mg_of X G a16
    f_write_block := f17
    d_write_block := _
    F_write_block := F17
    b_write_block := b17
    g_write_block := PySem.W.mg_of X G a17
    f_line_octets := f18
    d_line_octets := _
    F_line_octets := F18
    b_line_octets := b18
    g_line_octets := PySem.W.mg_of X G a18
    f_whole_octets := f19
    d_whole_octets := _
    F_whole_octets := F19
    b_whole_octets := b19
    g_whole_octets := PySem.W.mg_of X G a19
    f_named_octets := f20
    d_named_octets := _
    F_named_octets := F20
    b_named_octets := b20
    g_named_octets := PySem.W.mg_of X G a20
    f_are_entries := f21
    d_are_entries := _
    F_are_entries := F21
    b_are_entries := b21
    g_are_entries := PySem.W.mg_of X G a21
    f_check_entries := f22
    d_check_entries := _
    F_check_entries := F22
    b_check_entries := b22
    g_check_entries := PySem.W.mg_of X G a22
    f_says := f23
    d_says := _
    F_says := F23
    b_says := b23
    g_says := PySem.W.mg_of X G a23
    f_said_fields := f24
    d_said_fields := _
    F_said_fields := F24
    b_said_fields := b24
    g_said_fields := PySem.W.mg_of X G a24
    f_said_field := f25
    d_said_field := _
    F_said_field := F25
    b_said_field := b25
    g_said_field := PySem.W.mg_of X G a25
    f_referred := f26
    d_referred := _
    F_referred := F26
    b_referred := b26
    g_referred := PySem.W.mg_of X G a26
    f_shortest := f27
    d_shortest := _
    F_shortest := F27
    b_shortest := b27
    g_shortest := PySem.W.mg_of X G a27
    f_checked_lengths := f28
    d_checked_lengths := _
    F_checked_lengths := F28
    b_checked_lengths := b28
    g_checked_lengths := PySem.W.mg_of X G a28
    f_fewest_octets := f29
    d_fewest_octets := _
    F_fewest_octets := F29
    b_fewest_octets := b29
    g_fewest_octets := PySem.W.mg_of X G a29
    f_best_pair := f30
    d_best_pair := _
    F_best_pair := F30
    b_best_pair := b30
    g_best_pair := PySem.W.mg_of X G a30
    f_best_block := f31
    d_best_block := _
    F_best_block := F31
    b_best_block := b31
    g_best_block := PySem.W.mg_of X G a31
    f_best_choice := f32
    d_best_choice := _
    F_best_choice := F32
    b_best_choice := b32
    g_best_choice := PySem.W.mg_of X G a32
    f_best_choices := f33
    d_best_choices := _
    F_best_choices := F33
    b_best_choices := b33
    g_best_choices := PySem.W.mg_of X G a33
    f_line_choices := f34
    d_line_choices := _
    F_line_choices := F34
    b_line_choices := b34
    g_line_choices := PySem.W.mg_of X G a34
    f_referable := f35
    d_referable := _
    F_referable := F35
    b_referable := b35
    g_referable := PySem.W.mg_of X G a35
    f_law_open := f36
    d_law_open := _
    F_law_open := F36
    b_law_open := b36
    g_law_open := PySem.W.mg_of X G a36
    f_law_spread := f37
    d_law_spread := _
    F_law_spread := F37
    b_law_spread := b37
    g_law_spread := PySem.W.mg_of X G a37
    f_law_take := f38
    d_law_take := _
    F_law_take := F38
    b_law_take := b38
    g_law_take := PySem.W.mg_of X G a38
    f_law_one_of := f39
    d_law_one_of := _
    F_law_one_of := F39
    b_law_one_of := b39
    g_law_one_of := PySem.W.mg_of X G a39
    f_law_signs := f40
    d_law_signs := _
    F_law_signs := F40
    b_law_signs := b40
    g_law_signs := PySem.W.mg_of X G a40
    f_law_draw_text := f41
    d_law_draw_text := _
    F_law_draw_text := F41
    b_law_draw_text := b41
    g_law_draw_text := PySem.W.mg_of X G a41
    f_law_draw_near_field := f42
    d_law_draw_near_field := _
    F_law_draw_near_field := F42
    b_law_draw_near_field := b42
    g_law_draw_near_field := PySem.W.mg_of X G a42
    f_law_draw_setting := f43
    d_law_draw_setting := _
    F_law_draw_setting := F43
    b_law_draw_setting := b43
    g_law_draw_setting := PySem.W.mg_of X G a43
    f_law_draw_entries := f44
    d_law_draw_entries := _
    F_law_draw_entries := F44
    b_law_draw_entries := b44
    g_law_draw_entries := PySem.W.mg_of X G a44
    f_law_draw_saying := f45
    d_law_draw_saying := _
    F_law_draw_saying := F45
    b_law_draw_saying := b45
    g_law_draw_saying := PySem.W.mg_of X G a45
    f_law_lines_for := f46
    d_law_lines_for := _
    F_law_lines_for := F46
    b_law_lines_for := b46
    g_law_lines_for := PySem.W.mg_of X G a46
    f_law_draw_lines_for := f47
    d_law_draw_lines_for := _
    F_law_draw_lines_for := F47
    b_law_draw_lines_for := b47
    g_law_draw_lines_for := PySem.W.mg_of X G a47
    f_law := fa
    d_law := _
    F_law := F48
    b_law := b48
    g_law := PySem.W.mg_of X G a48
    C_FieldError := C0
    m_FieldError := .type "type"
    B_FieldError := ⟨PySem.W.mg_of X G cC0, ⟨rd0, ga0⟩, in0⟩
    R_FieldError := ⟨rb0, rt0, rc0⟩
    C_NoSetting := C1
    P_NoSetting := ⟨PySem.W.mg_of X G cC1, xC1, kC1, eC1, tC1⟩
    S_NoSetting := ⟨eC1, tC1, uC1⟩
    C_NoField := C2
    P_NoField := ⟨PySem.W.mg_of X G cC2, xC2, kC2, eC2, tC2⟩
    S_NoField := ⟨eC2, tC2, uC2⟩
    C_NoValue := C3
    P_NoValue := ⟨PySem.W.mg_of X G cC3, xC3, kC3, eC3, tC3⟩
    S_NoValue := ⟨eC3, tC3, uC3⟩
    t_NUMBER_MOST := tk0
    g_NUMBER_MOST := PySem.W.mg_of X G v0
    t_NAME_MOST := tk1
    g_NAME_MOST := PySem.W.mg_of X G v1
    t_VALUE_MOST := tk2
    g_VALUE_MOST := PySem.W.mg_of X G v2
    t_FIELDS_MOST := tk3
    g_FIELDS_MOST := PySem.W.mg_of X G v3
    t_FIXED_MOST := tk4
    g_FIXED_MOST := PySem.W.mg_of X G v4
    t_ROOM_MOST := tk5
    g_ROOM_MOST := PySem.W.mg_of X G v5
    t_WAITING_MOST := tk6
    g_WAITING_MOST := PySem.W.mg_of X G v6
    t_VALUE_PREFIX := tk7
    g_VALUE_PREFIX := PySem.W.mg_of X G v7
    a_CHARACTERS := ad8
    g_CHARACTERS := PySem.W.mg_of X G v8
    CHARACTERS_d := ⟨⟨_, _, w8, e8⟩, q8⟩
    t_LINES_MOST := tk9
    g_LINES_MOST := PySem.W.mg_of X G v9
    t_ENTRIES_MOST := tk10
    g_ENTRIES_MOST := PySem.W.mg_of X G v10
    t_ENTRY_MOST := tk11
    g_ENTRY_MOST := PySem.W.mg_of X G v11
    z_all := PySem.W.mg_none_of X G z0
    z_bool := PySem.W.mg_none_of X G z1
    z_dict := PySem.W.mg_none_of X G z2
    z_enumerate := PySem.W.mg_none_of X G z3
    z_int := PySem.W.mg_none_of X G z4
    z_isinstance := PySem.W.mg_none_of X G z5
    z_len := PySem.W.mg_none_of X G z6
    z_list := PySem.W.mg_none_of X G z7
    z_max := PySem.W.mg_none_of X G z8
    z_min := PySem.W.mg_none_of X G z9
    z_ord := PySem.W.mg_none_of X G z10
    z_range := PySem.W.mg_none_of X G z11
    z_sorted := PySem.W.mg_none_of X G z12
    z_str := PySem.W.mg_none_of X G z13
    z_sum := PySem.W.mg_none_of X G z14
    z_tuple := PySem.W.mg_none_of X G z15
  }
  exact ⟨PySem.W.fnOf "law" "law" (defArgs s_law) (defBody s_law) (defScope s_law) .none kV48 dc48 pm48 an48 cd48 ct48, fun s v => .of_eq rfl, fun base _ _ => ok_law T⟩
theorem walk {l : PySem.W.OpenLaw} {q : Program} {loose : List Str} {XP : (Str → Option Value) → Heap → Prop} {YP : World → Heap → Prop} {d : DefRec} {K : Params → PySem.W.Frag} (hn : l.most = some 63) (hdf : d.params.defaults = [])
    (hY : ∀ (w : World) (h : Heap), YP w h → (K w.params).In h)
    (F : ∀ (w : World) (mg : Str → Option Value) (fa : Addr) (h : Heap), (K w.params).In h → h.Ns mainGlobals mg → mg d.name = some (.ref fa) →
      ∃ fd : FuncData, (∀ (s : Shared) (u : Value), BindsTo s fd ⟨[u], []⟩ [("script", u)]) ∧ ∀ base : Heap, (K w.params).In base → base.Ns mainGlobals mg → FnOk l.prog w (K w.params) mg base CX0 12 fa fd ["script"] (spLaw (K w.params))) :
    PySem.W.WalkO q loose XP YP l.row.toRowW d [] (fun f vs => PySem.call f vs) :=
  L2.walk_of (n := 63) (k := 12) (x := "script") (CX := fun _ => CX0) (sp := fun w => spLaw (K w.params)) hn (by decide) hdf ⟨rfl, by decide, by decide⟩ hY F (fun _ _ a ns hl _ hS => ⟨a, ns, rfl, hS, hl, fun _ => rfl⟩) fun _ _ _ _ _ z => z
end Fld
open PySem PySem.W PyProof.Rows
set_option maxRecDepth 100000 in
set_option maxHeartbeats 0 in
theorem PySem.Challenge.cw_fieldtable_k35_whole_shortest_blocks_holds : PySem.Challenge.rw_fieldtable_k35_whole_shortest_blocks.Holds := by
  w_on; o_law; k_head; (case hw => w_witness2)
  k_fill
  refine Fld.walk (l := PySem.Challenge.rw_fieldtable_k35_whole_shortest_blocks) rfl rfl (fun w h Y => PySem.W.kIn_of Y) ?F
  case F =>
    intro w mg fa h KX G hmg
    refine' Fld.all_mk KX G hmg ?cC0 ?rd0 ?ga0 ?in0 ?rb0 ?rt0 ?rc0 ?cC1 ?kC1 ?eC1 ?tC1 ?uC1 ?xC1 ?cC2 ?kC2 ?eC2 ?tC2 ?uC2 ?xC2 ?cC3 ?kC3 ?eC3 ?tC3 ?uC3 ?xC3 ?a0 ?l0 ?c0 ?k0 ?a1 ?l1 ?c1 ?k1 ?a2 ?l2 ?c2 ?k2 ?a3 ?l3 ?c3 ?k3 ?a4 ?l4 ?c4 ?k4 ?a5 ?l5 ?c5 ?k5 ?a6 ?l6 ?c6 ?k6 ?a7 ?l7 ?c7 ?k7 ?a8 ?l8 ?c8 ?k8 ?a9 ?l9 ?c9 ?k9 ?a10 ?l10 ?c10 ?k10 ?a11 ?l11 ?c11 ?k11 ?a12 ?l12 ?c12 ?k12 ?a13 ?l13 ?c13 ?k13 ?a14 ?l14 ?c14 ?k14 ?a15 ?l15 ?c15 ?k15 ?a16 ?l16 ?c16 ?k16 ?a17 ?l17 ?c17 ?k17 ?a18 ?l18 ?c18 ?k18 ?a19 ?l19 ?c19 ?k19 ?a20 ?l20 ?c20 ?k20 ?a21 ?l21 ?c21 ?k21 ?a22 ?l22 ?c22 ?k22 ?a23 ?l23 ?c23 ?k23 ?a24 ?l24 ?c24 ?k24 ?a25 ?l25 ?c25 ?k25 ?a26 ?l26 ?c26 ?k26 ?a27 ?l27 ?c27 ?k27 ?a28 ?l28 ?c28 ?k28 ?a29 ?l29 ?c29 ?k29 ?a30 ?l30 ?c30 ?k30 ?a31 ?l31 ?c31 ?k31 ?a32 ?l32 ?c32 ?k32 ?a33 ?l33 ?c33 ?k33 ?a34 ?l34 ?c34 ?k34 ?a35 ?l35 ?c35 ?k35 ?a36 ?l36 ?c36 ?k36 ?a37 ?l37 ?c37 ?k37 ?a38 ?l38 ?c38 ?k38 ?a39 ?l39 ?c39 ?k39 ?a40 ?l40 ?c40 ?k40 ?a41 ?l41 ?c41 ?k41 ?a42 ?l42 ?c42 ?k42 ?a43 ?l43 ?c43 ?k43 ?a44 ?l44 ?c44 ?k44 ?a45 ?l45 ?c45 ?k45 ?a46 ?l46 ?c46 ?k46 ?a47 ?l47 ?c47 ?k47 ?a48 ?l48 ?c48 ?k48 ?v0 ?v1 ?v2 ?v3 ?v4 ?v5 ?v6 ?v7 ?v8 ?w8 ?e8 ?q8 ?v9 ?v10 ?v11 ?z0 ?z1 ?z2 ?z3 ?z4 ?z5 ?z6 ?z7 ?z8 ?z9 ?z10 ?z11 ?z12 ?z13 ?z14 ?z15
    (case cC0 => k_is)
    (case rd0 => k_is)
    (case ga0 => k_is)
    (case in0 => k_is)
    (case rb0 => k_is)
    (case rt0 => k_is)
    (case rc0 => k_is)
    (case cC1 => k_is)
    (case kC1 => k_is)
    (case eC1 => k_is)
    (case tC1 => k_is)
    (case uC1 => k_is)
    (case xC1 => k_exc)
    (case cC2 => k_is)
    (case kC2 => k_is)
    (case eC2 => k_is)
    (case tC2 => k_is)
    (case uC2 => k_is)
    (case xC2 => k_exc)
    (case cC3 => k_is)
    (case kC3 => k_is)
    (case eC3 => k_is)
    (case tC3 => k_is)
    (case uC3 => k_is)
    (case xC3 => k_exc)
    (case a0 => k_is)
    (case l0 => k_is)
    (case c0 => k_is)
    (case k0 => k_is)
    (case a1 => k_is)
    (case l1 => k_is)
    (case c1 => k_is)
    (case k1 => k_is)
    (case a2 => k_is)
    (case l2 => k_is)
    (case c2 => k_is)
    (case k2 => k_is)
    (case a3 => k_is)
    (case l3 => k_is)
    (case c3 => k_is)
    (case k3 => k_is)
    (case a4 => k_is)
    (case l4 => k_is)
    (case c4 => k_is)
    (case k4 => k_is)
    (case a5 => k_is)
    (case l5 => k_is)
    (case c5 => k_is)
    (case k5 => k_is)
    (case a6 => k_is)
    (case l6 => k_is)
    (case c6 => k_is)
    (case k6 => k_is)
    (case a7 => k_is)
    (case l7 => k_is)
    (case c7 => k_is)
    (case k7 => k_is)
    (case a8 => k_is)
    (case l8 => k_is)
    (case c8 => k_is)
    (case k8 => k_is)
    (case a9 => k_is)
    (case l9 => k_is)
    (case c9 => k_is)
    (case k9 => k_is)
    (case a10 => k_is)
    (case l10 => k_is)
    (case c10 => k_is)
    (case k10 => k_is)
    (case a11 => k_is)
    (case l11 => k_is)
    (case c11 => k_is)
    (case k11 => k_is)
    (case a12 => k_is)
    (case l12 => k_is)
    (case c12 => k_is)
    (case k12 => k_is)
    (case a13 => k_is)
    (case l13 => k_is)
    (case c13 => k_is)
    (case k13 => k_is)
    (case a14 => k_is)
    (case l14 => k_is)
    (case c14 => k_is)
    (case k14 => k_is)
    (case a15 => k_is)
    (case l15 => k_is)
    (case c15 => k_is)
    (case k15 => k_is)
    (case a16 => k_is)
    (case l16 => k_is)
    (case c16 => k_is)
    (case k16 => k_is)
    (case a17 => k_is)
    (case l17 => k_is)
    (case c17 => k_is)
    (case k17 => k_is)
    (case a18 => k_is)
    (case l18 => k_is)
    (case c18 => k_is)
    (case k18 => k_is)
    (case a19 => k_is)
    (case l19 => k_is)
    (case c19 => k_is)
    (case k19 => k_is)
    (case a20 => k_is)
    (case l20 => k_is)
    (case c20 => k_is)
    (case k20 => k_is)
    (case a21 => k_is)
    (case l21 => k_is)
    (case c21 => k_is)
    (case k21 => k_is)
    (case a22 => k_is)
    (case l22 => k_is)
    (case c22 => k_is)
    (case k22 => k_is)
    (case a23 => k_is)
    (case l23 => k_is)
    (case c23 => k_is)
    (case k23 => k_is)
    (case a24 => k_is)
    (case l24 => k_is)
    (case c24 => k_is)
    (case k24 => k_is)
    (case a25 => k_is)
    (case l25 => k_is)
    (case c25 => k_is)
    (case k25 => k_is)
    (case a26 => k_is)
    (case l26 => k_is)
    (case c26 => k_is)
    (case k26 => k_is)
    (case a27 => k_is)
    (case l27 => k_is)
    (case c27 => k_is)
    (case k27 => k_is)
    (case a28 => k_is)
    (case l28 => k_is)
    (case c28 => k_is)
    (case k28 => k_is)
    (case a29 => k_is)
    (case l29 => k_is)
    (case c29 => k_is)
    (case k29 => k_is)
    (case a30 => k_is)
    (case l30 => k_is)
    (case c30 => k_is)
    (case k30 => k_is)
    (case a31 => k_is)
    (case l31 => k_is)
    (case c31 => k_is)
    (case k31 => k_is)
    (case a32 => k_is)
    (case l32 => k_is)
    (case c32 => k_is)
    (case k32 => k_is)
    (case a33 => k_is)
    (case l33 => k_is)
    (case c33 => k_is)
    (case k33 => k_is)
    (case a34 => k_is)
    (case l34 => k_is)
    (case c34 => k_is)
    (case k34 => k_is)
    (case a35 => k_is)
    (case l35 => k_is)
    (case c35 => k_is)
    (case k35 => k_is)
    (case a36 => k_is)
    (case l36 => k_is)
    (case c36 => k_is)
    (case k36 => k_is)
    (case a37 => k_is)
    (case l37 => k_is)
    (case c37 => k_is)
    (case k37 => k_is)
    (case a38 => k_is)
    (case l38 => k_is)
    (case c38 => k_is)
    (case k38 => k_is)
    (case a39 => k_is)
    (case l39 => k_is)
    (case c39 => k_is)
    (case k39 => k_is)
    (case a40 => k_is)
    (case l40 => k_is)
    (case c40 => k_is)
    (case k40 => k_is)
    (case a41 => k_is)
    (case l41 => k_is)
    (case c41 => k_is)
    (case k41 => k_is)
    (case a42 => k_is)
    (case l42 => k_is)
    (case c42 => k_is)
    (case k42 => k_is)
    (case a43 => k_is)
    (case l43 => k_is)
    (case c43 => k_is)
    (case k43 => k_is)
    (case a44 => k_is)
    (case l44 => k_is)
    (case c44 => k_is)
    (case k44 => k_is)
    (case a45 => k_is)
    (case l45 => k_is)
    (case c45 => k_is)
    (case k45 => k_is)
    (case a46 => k_is)
    (case l46 => k_is)
    (case c46 => k_is)
    (case k46 => k_is)
    (case a47 => k_is)
    (case l47 => k_is)
    (case c47 => k_is)
    (case k47 => k_is)
    (case a48 => k_is)
    (case l48 => k_is)
    (case c48 => k_is)
    (case k48 => k_is)
    (case v0 => k_is)
    (case v1 => k_is)
    (case v2 => k_is)
    (case v3 => k_is)
    (case v4 => k_is)
    (case v5 => k_is)
    (case v6 => k_is)
    (case v7 => k_is)
    (case v8 => k_is)
    (case w8 => k_is)
    (case e8 => repeat (first | exact Paired.nil | refine Paired.cons ⟨⟨_, rfl⟩, rfl, ⟨_, rfl⟩⟩ ?_))
    (case q8 => first | rfl | decide +kernel | k_is)
    (case v9 => k_is)
    (case v10 => k_is)
    (case v11 => k_is)
    (case z0 => k_is)
    (case z1 => k_is)
    (case z2 => k_is)
    (case z3 => k_is)
    (case z4 => k_is)
    (case z5 => k_is)
    (case z6 => k_is)
    (case z7 => k_is)
    (case z8 => k_is)
    (case z9 => k_is)
    (case z10 => k_is)
    (case z11 => k_is)
    (case z12 => k_is)
    (case z13 => k_is)
    (case z14 => k_is)
    (case z15 => k_is)
