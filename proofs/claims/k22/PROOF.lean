import PyProof.Rows.All
import Wide.All
import OpenK.AllK
import Wide.FinOn
import KE.GoesEnum
import HandS.ForMost
import HandS.IsInst
import HandS.Flow
import HandS.Walk
import HandS.Zip
import HandS.Style
import HandS.Defaults
import HandS.Evl
import HandS.ForExc
import HandS.ExcInit
import HandS.ClsMeth
import HandS.FStr
import HandS.Steps
import HandS.ExcIs
import HandS.WordsExc
import KE.DataEq
import KE.KEqDict
import HandS.ExcValue
import KE.KRevSl
import HandS.TupAny
import HandS.TupMul
import KE.KDictZip
import KE.KItemsList
import HandS.Iter
import HandS.Dict
import HandS.More
import HandS.ForDict
import KE.KSortedM
import HandS.Finally
import HandS.ExcField
import HandS.SetFor
import PySem.Challenge.RW_fieldtable_k22_tables_refused
set_option Elab.async false
set_option linter.all false
set_option maxRecDepth 100000
set_option maxHeartbeats 4000000
namespace Fld
open PySem PySem.Spec PyProof.Rows L2
/-! ### a written dict whose keys are ints -/
def EntI : List DictEntry → List (Int × V) → Prop := Paired fun (e : DictEntry) (p : Int × V) => (∃ t, e.key = Value.int p.1 t) ∧ e.hash = hashInt p.1 ∧ RelV p.2 e.val
structure IDict (K : PySem.W.Frag) (d : Addr) (kvs : List (Int × V)) : Prop where
  ex : ∃ es n, K.lookup d = some ⟨.type "dict", none, .dict es n, #[]⟩ ∧ EntI es.toList kvs
  low : (d == sysModules) = false
def valI (kvs : List (Int × V)) (k : Int) : Option V := (kvs.find? fun p => p.1 == k).map (·.2)
theorem findI : ∀ {es : List DictEntry} {kvs : List (Int × V)} (k : Int), EntI es kvs → RelO (valI kvs k) ((es.find? fun e => Value.isInt k e.key).map (·.val))
  | _, _, k, .nil => True.intro
  | e :: es, p :: kvs, k, .cons h t => by
    obtain ⟨⟨u, e1⟩, e2, e3⟩ := h
    have ih := findI k t
    unfold valI
    rw [List.find?_cons, List.find?_cons, e1]
    by_cases c : p.1 = k
    · subst c
      have q : Value.isInt p.1 (Value.int p.1 u) = true := by simp [Value.isInt]
      rw [q]
      simp only [beq_self_eq_true, Option.map_some]
      exact e3
    · have q : Value.isInt k (Value.int p.1 u) = false := by simp [Value.isInt, c]
      have q2 : (p.1 == k) = false := by simp [c]
      rw [q, q2]
      exact ih
section
variable {X : Cx} {d : Addr} {kvs : List (Int × V)}
theorem IDict.map (D : IDict X.K d kvs) {h : Heap} (I : X.K.In h) : ∃ es : Array DictEntry, h.MapOf (intKind X.prog X.w) d (fun k => findBy Value.isInt es k) ∧ EntI es.toList kvs := by
  obtain ⟨es, n, l, e⟩ := D.ex
  refine ⟨es, ⟨_, es, n, I _ _ l, ⟨rfl, rfl, rfl⟩, rfl, fun x hx => ?_, fun _ => rfl⟩, e⟩
  have mem : ∀ {es : List DictEntry} {kvs : List (Int × V)}, EntI es kvs → ∀ x ∈ es, ∃ k t, x.key = Value.int k t ∧ x.hash = hashInt k := by
    intro es kvs r
    induction r with
    | nil => intro x hx; cases hx
    | cons h t ih =>
      intro x hx
      rcases List.mem_cons.mp hx with rfl | hx
      · obtain ⟨⟨u, e1⟩, e2, _⟩ := h
        exact ⟨_, u, e1, e2⟩
      · exact ih x hx
  obtain ⟨k, t, e1, e2⟩ := mem e x (Array.mem_toList_iff.mpr hx)
  exact ⟨k, by rw [e1]; exact intKind_is _ _ k t, e2⟩
theorem findE {es : Array DictEntry} (e : EntI es.toList kvs) (k : Int) : RelO (valI kvs k) (findBy Value.isInt es k) := by
  obtain ⟨l⟩ := es
  have := findI k e
  unfold findBy
  rw [List.find?_toArray]
  exact this
theorem isSome_of {a : Option V} {b : Option Value} (r : RelO a b) : b.isSome = a.isSome := by
  cases a <;> cases b <;> first | rfl | exact r.elim
/-- k in d, d a written dict with int keys -/
def rInI (d : Addr) (kvs : List (Int × V)) : R2 := fun x y H Q => ∃ k : Int, x = .int k ∧ y = .ref d ∧ Q (.bl (valI kvs k).isSome) H
theorem op_in_kdI (D : IDict X.K d kvs) : OpR X (compareOp .In) (rInI d kvs) := by
  intro pins s σ H x y v u Q I rx ry h
  obtain ⟨k, rfl, rfl, q⟩ := h
  obtain ⟨t, rfl⟩ := rx
  cases ry
  obtain ⟨es, m, e⟩ := D.map I.kIn
  refine wpAny_in_of (PySem.intKind_is X.prog X.w k t) D.low m ?_
  rw [isSome_of (findE e k)]
  exact ⟨.bl _, H, I.tok _, rfl, q⟩
/-- d[k] -/
def rIxI (d : Addr) (kvs : List (Int × V)) : R2 := fun x y H Q => ∃ (k : Int) (v : V), x = .ref d ∧ y = .int k ∧ valI kvs k = some v ∧ Q v H
theorem ix_kdI (D : IDict X.K d kvs) : IxR X (rIxI d kvs) := by
  intro value slice pins s σ H x y v u Q I rx ry h hs
  obtain ⟨k, z, rfl, rfl, hv, q⟩ := h
  cases rx
  obtain ⟨t, rfl⟩ := ry
  obtain ⟨es, m, e⟩ := D.map I.kIn
  have r := findE e k
  rw [hv] at r
  obtain ⟨u0, e0, ru⟩ := RelO.some_of r
  exact tail_any m.typeIs slot_dict_getitem.lookup (wpAny_getItem_of (PySem.intKind_is X.prog X.w k t) m e0 ⟨z, H, I.tok _, ru, q⟩) hs
end
/-! ### text * int -/
def repS (x : Str) (n : Nat) : Str := ⟨(List.replicate n x.cps.toList).flatten.toArray⟩
theorem foldl_app : ∀ (k : Nat) (xs : Array Nat) (acc : Array Nat), (List.replicate k xs).foldl (· ++ ·) acc = acc ++ (List.replicate k xs.toList).flatten.toArray
  | 0, xs, acc => by simp
  | k + 1, xs, acc => by
    rw [List.replicate_succ, List.foldl_cons, foldl_app k xs, List.replicate_succ, List.flatten_cons]
    apply Array.ext'
    simp [List.append_assoc]
theorem repS_tl (x : Str) (n : Nat) : (repS x n).cps.toList = (List.replicate n x.cps.toList).flatten := rfl
theorem op_mul_str {X : Cx} : OpR X (binaryOp .Mult) (fun x y H Q => ∃ (z : Str) (k : Int), x = .str z ∧ y = .int k ∧ 1 < k ∧ k < 1000 ∧ 0 < z.length ∧ z.length ≤ 1000 ∧ Q (.str (repS z k.toNat)) H) := by
  intro pins s σ H x y v u Q I rx ry h
  obtain ⟨z, k, rfl, rfl, h1, h2, h3, h4, q⟩ := h
  obtain ⟨t, rfl⟩ := rx
  obtain ⟨t', rfl⟩ := ry
  have hlen : (z.length == 0) = false := by simp; omega
  have hk1 : (k == 1) = false := by simp; omega
  refine PySem.P.mul_str (by
      rw [decide_eq_false (by omega), decide_eq_false (by omega)]; rfl) (fun _ _ => ?_) (fun _ _ => ?_) ?_
  · have : (1000 : Int) ≤ (2 ^ 63 - 1) / k := by
      rw [Int.le_ediv_iff_mul_le (by omega)]
      omega
    omega
  · have a1 : z.length * k.toNat ≤ 1000 * 1000 := Nat.mul_le_mul h4 (by omega)
    have a2 : ¬ (z.length * k.toNat > sizeLine) := by rw [sizeLine_eq]; omega
    show (decide _) = false
    first | exact decide_eq_false a2 | simp [a2]
  · rw [if_neg (by omega), hk1, hlen]
    simp only [Bool.or_self, Bool.false_eq_true, if_false]
    have e : (⟨(List.replicate k.toNat z.cps).foldl (· ++ ·) #[]⟩ : Str) = repS z k.toNat := by
      unfold repS
      rw [foldl_app]
      simp
    rw [e]
    refine ⟨?_, ⟨.str (repS z k.toNat), H, I.tok _, ⟨_, rfl⟩, q⟩⟩
    have a1 : z.length * k.toNat ≤ 1000 * 1000 := Nat.mul_le_mul h4 (by omega)
    have e2 : (repS z k.toNat).length = k.toNat * z.length := by
      show (List.replicate k.toNat z.cps.toList).flatten.toArray.size = _
      simp
      rfl
    rw [Nat.mul_comm] at a1
    first
      | exact decide_eq_false (by rw [e2, sizeLine_eq]; omega)
      | (rw [e2]; simp [sizeLine_eq]; omega)
      | (rw [e2, sizeLine_eq]; omega)
end Fld
namespace Fld
open PySem PySem.Spec PyProof.Rows L2
/-! ### enumerate(text) -/
/-- the signs of x, each in a new pair with its place -/
def ItS (x : Str) : It :=
  ⟨fun i H => i < x.cps.size, fun i H v H' => ∃ T c, v = .ref T ∧ H T = none ∧ H' = upd H T (.tup [.int (i : Nat), .str ⟨#[c]⟩]) ∧ x.cps[i]? = some c, fun i H => x.cps.size ≤ i⟩
theorem turn_enumS {P : Program} {w : World} {K : PySem.W.Frag} {elts : List Expr} {kk : Nat} {tpos : Pos} (x : Str) (t : Tok) (e it : Addr) :
    Turn P w K (.Tuple elts kk tpos) (ItS x) [e, it] e (fun i h => (∃ old, IsEnum h e it ((i : Nat) : Int) old) ∧ h.IsStrIter it (strIterType x) x t i ∧ e ≠ it ∧ i ≤ x.cps.size) where
  mem := by simp
  obj := fun i h st b hb => by
    obtain ⟨⟨old, he⟩, hi, _⟩ := st
    have e' : b = e ∨ b = it := by simpa using hb
    rcases e' with z | z
    · rw [z]; exact ⟨_, he, fun v q => nomatch q⟩
    · rw [z]; obtain ⟨o, ho, hc, hd⟩ := hi; exact ⟨_, ho, fun v q => by rw [hd] at q; cases q⟩
  keep := fun i h h' st k => let ⟨⟨old, he⟩, hi, hne, hl⟩ := st; ⟨⟨old, k e (by simp) _ he⟩, by obtain ⟨o, ho, hc, hd⟩ := hi; exact ⟨o, k it (by simp) o ho, hc, hd⟩, hne, hl⟩
  item := by
    intro X hP hw hK hc i pins s σ H E I hf st hg
    subst hP hw hK
    obtain ⟨⟨old, he⟩, hit, hne, hl⟩ := st
    have D := Draws.text (prog := X.prog) (w := X.w) (A := X.A.in1) (I.ok.hd hc) it x t
    have hel : e < s.heap.objs.size := Heap.lt_size he
    have hil : it < s.heap.objs.size := by obtain ⟨_, q⟩ := D.live i s.heap hit; exact Heap.lt_size q
    refine wpAny_pyNext_enum_itemC D he hit hg hne (by simp [hne]) fun u h' tk hP ho hit' hT hsz hk => ?_
    obtain ⟨c, tu, hx, rfl⟩ := hP
    refine ⟨_, rfl, wpAny_letOwnedTupleGo_enum (s := { s with heap := h', toks := tk + 1 }) ho fun h'' he' sb => ?_⟩
    have hT2 : h''.get? s.heap.objs.size = some { cls := .type "tuple", data := .seq #[.int i tk, .str ⟨#[c]⟩ tu] } := (sb.2 _ (Nat.ne_of_gt hel)).trans hT
    have new : ObjOk X.prog X.w (upd H s.heap.objs.size (.tup [.int (i : Nat), .str ⟨#[c]⟩])) h'' s.heap.objs.size (.tup [.int (i : Nat), .str ⟨#[c]⟩]) :=
      ⟨by show 2 ≤ sizeLine; decide, [.int i tk, .str ⟨#[c]⟩ tu], .cons ⟨_, rfl⟩ (.cons ⟨_, rfl⟩ .nil), ⟨_, hT2, rfl, _, rfl⟩⟩
    have I1 : Inv X pins σ (upd H s.heap.objs.size (.tup [.int (i : Nat), .str ⟨#[c]⟩])) { s with heap := h'', toks := tk + 1 } :=
      I.turnedNew (ch := [e, it]) (fun b ob hb q => (sb.2 b (fun z => hb (by simp [z]))).trans (hk b ob (fun z => hb (by simp [z])) (fun z => hb (by simp [z])) q)) hf (Nat.le_refl _) new
    refine ⟨.ref s.heap.objs.size, _, I1, rfl, ⟨_, c, rfl, I.hok.fresh (Nat.le_refl _), rfl, hx⟩, ⟨⟨.str ⟨#[c]⟩ tu, ?_⟩, D.frame _ _ _ hit' (fun b hb o q => ?_), hne, hg⟩, fun b hb => ?_⟩
    · have e1 : ((i + 1 : Nat) : Int) = (i : Int) + 1 := by omega
      rw [e1]; exact he'
    · have eb : b = it := by simpa using hb
      rw [eb] at q ⊢
      exact (sb.2 it (Ne.symm hne)).trans q
    · have hb' : b < s.heap.objs.size := by
        have e' : b = e ∨ b = it := by simpa using hb
        rcases e' with z | z
        · rw [z]; exact hel
        · rw [z]; exact hil
      rw [upd_ne (Nat.ne_of_lt hb')]
      exact (hf b hb).1
  done := by
    intro X hP hw hK hc i pins s σ H E I hf st hg
    subst hP hw hK
    obtain ⟨⟨old, he⟩, hit, hne, hl⟩ := st
    have ei : i = x.cps.size := Nat.le_antisymm hl hg
    subst ei
    have D := Draws.text (prog := X.prog) (w := X.w) (A := X.A.in1) (I.ok.hd hc) it x t
    obtain ⟨f0, f1, f2, f3, f4, f5⟩ := hf it (by simp)
    exact wpAny_pyNext_enum_endD D he hit fun h' eb => ⟨rfl, I.turned (t' := s.toks) (fun b o hb q => eb b o hb q) f0 f1 f3 f4 f5⟩
  self := fun A i s Q E st h => let ⟨⟨_, he⟩, _⟩ := st; wpAny_pyIter_enum he h
def iEnumS (ta : TA) : TI := fun σ H R => ta σ H fun vs H1 => ∃ x, vs = [.str x] ∧ R (ItS x) H1
theorem pi_enumS {X : Cx} {e : Expr} {ta : TA} {p pos tpos : Pos} {elts : List Expr} {kk : Nat} (hg : Gl X "enumerate") (hm : X.mg "enumerate" = none) (ha : PA X [e] ta) (hs : starEach [e] X.env = [(false, eval e X.env)] := by rfl) :
    PI X (.Tuple elts kk tpos) (.Call (.Name "enumerate" p) [e] [] pos) (iEnumS ta) := by
  refine ⟨fun pins s σ H R I h => ?_⟩
  refine Call_ (ld_blt I hg hm boot_enumerate (PyProof.Rows.callWith_type1 (thn (ha.run pos pins s σ H _ I h) fun us s1 ⟨vs, H1, I1, r1, q1⟩ => ?_) hs rfl))
  obtain ⟨x, ex, q⟩ := q1
  subst ex
  cases r1 with
  | cons r rr =>
    cases rr
    obtain ⟨t, rfl⟩ := r
    refine call_enumerate_str fun h' he hit hsz hk => wpAny_pyIter_enum he ?_
    have I2 : Inv X pins σ H1 { s1 with heap := h' } := I1.kept (t' := s1.toks) hk
    refine ⟨s1.heap.objs.size + 1, [s1.heap.objs.size + 1, s1.heap.objs.size], _, _, H1, rfl, I2, turn_enumS x t (s1.heap.objs.size + 1) s1.heap.objs.size, ⟨⟨.none, he⟩, hit, Nat.succ_ne_self _, Nat.zero_le _⟩, fun b hb => ?_, q⟩
    have e' : b = s1.heap.objs.size + 1 ∨ b = s1.heap.objs.size := by simpa using hb
    have hle : s1.heap.objs.size ≤ b := by
      rcases e' with z | z
      · rw [z]; exact Nat.le_add_right _ _
      · rw [z]; exact Nat.le_refl _
    exact I1.fpOk hle (I1.hok.fresh hle)
/-- the walk of it -/
theorem walk_enumS {x : Str} : Walk (ItS x) x.cps.size (fun _ => True) (fun i H v H' => ∃ T c, v = .ref T ∧ H T = none ∧ H' = upd H T (.tup [.int (i : Nat), .str ⟨#[c]⟩]) ∧ x.cps[i]? = some c) :=
  ⟨fun _ _ hi _ => hi, fun _ _ => Nat.le_refl _, fun _ _ _ _ _ _ y => y⟩
end Fld
namespace Fld
open PySem PySem.Spec PyProof.Rows L2
/-! ### the characters -/
def charCodes : List Nat := [32, 45, 46, 47, 48, 49, 50, 51, 52, 53, 54, 55, 56, 57, 58, 59, 61, 97, 98, 99, 100, 101, 102, 103, 104, 105, 106, 107, 108, 109, 110, 111, 112, 113, 114, 115, 116, 117, 118, 119, 120, 121, 122]
def chars : List (Int × V) := charCodes.map fun (c : Nat) => (((c : Nat) : Int), V.str ⟨#[c]⟩)
/-! ### the heap but for one object -/
def Off (p : Addr) (H : Hp) : Hp := fun b => if b = p then none else H b
/-- all but p stands -/
def But (p : Addr) (H H' : Hp) : Prop := ∀ b o, b ≠ p → H b = some o → H' b = some o
theorem But.refl (p : Addr) (H : Hp) : But p H H := fun _ _ _ h => h
theorem But.trans {p : Addr} {H H1 H2 : Hp} (a : But p H H1) (b : But p H1 H2) : But p H H2 := fun c o n h => b c o n (a c o n h)
theorem But.of {p : Addr} {H H' : Hp} (s : Same H H') : But p H H' := fun c o _ h => s c o h
theorem But.set {p : Addr} {H : Hp} {o : HO} : But p H (upd H p o) := fun c u n h => by rw [upd_ne n]; exact h
theorem But.new {p q : Addr} {H : Hp} {o : HO} (h : H q = none) : But p H (upd H q o) := fun c u n e => by rw [upd_ne (ne_of_none e h)]; exact e
theorem _root_.L2.Same.new {q : Addr} {H : Hp} {o : HO} (h : H q = none) : Same H (upd H q o) := fun c u e => by rw [upd_ne (ne_of_none e h)]; exact e
theorem But.put {p q : Addr} {H H' : Hp} {o : HO} (b : But p H H') (h : H q = none) : But p H (upd H' q o) := fun u v n e => by rw [upd_ne (ne_of_none e h)]; exact b u v n e
/-- what is true of all values of the heap but p -/
theorem But.none {p q : Addr} {H H' : Hp} (b : But p H H') (n : q ≠ p) (h : H' q = Option.none) : H q = Option.none := by
  cases e : H q with
  | none => rfl
  | some o => rw [b q o n e] at h; cases h
/-! ### the pen: a list of cells, how many were taken, what is left of the last -/
structure Pen (H : Hp) (p c : Addr) (n : Nat) : Prop where
  ex : ∃ (at_ : Nat) (acc : Int) (ns : List Int), H p = some (.lst [.ref c, .int (at_ : Nat), .int acc]) ∧ H c = some (.lst (ns.map V.int)) ∧ c ≠ p ∧ ns.length ≤ 63 ∧ at_ ≤ n
theorem Pen.mono {H : Hp} {p c : Addr} {n m : Nat} (h : Pen H p c n) (l : n ≤ m) : Pen H p c m := by
  obtain ⟨a, acc, ns, h1, h2, h3, h4, h5⟩ := h.ex
  exact ⟨a, acc, ns, h1, h2, h3, h4, Nat.le_trans h5 l⟩
theorem Pen.keep {H H' : Hp} {p c : Addr} {n : Nat} (h : Pen H p c n) (k : Same H H') : Pen H' p c n := by
  obtain ⟨a, acc, ns, h1, h2, h3, h4, h5⟩ := h.ex
  exact ⟨a, acc, ns, k _ _ h1, k _ _ h2, h3, h4, h5⟩
theorem Pen.some {H : Hp} {p c : Addr} {n : Nat} (h : Pen H p c n) : (∃ xs, H p = some (.lst xs)) ∧ ∃ xs, H c = some (.lst xs) := by
  obtain ⟨a, acc, ns, h1, h2, h3, h4, h5⟩ := h.ex
  exact ⟨⟨_, h1⟩, ⟨_, h2⟩⟩
theorem Pen.ne {H : Hp} {p c q : Addr} {n : Nat} (h : Pen H p c n) (hq : H q = none) : p ≠ q := by
  obtain ⟨⟨xs, e⟩, _⟩ := h.some
  exact ne_of_none e hq
theorem Pen.nec {H : Hp} {p c q : Addr} {n : Nat} (h : Pen H p c n) (hq : H q = none) : c ≠ q := by
  obtain ⟨_, ⟨xs, e⟩⟩ := h.some
  exact ne_of_none e hq
theorem Pen.upd {H : Hp} {p c q : Addr} {n : Nat} {o : HO} (h : Pen H p c n) (h1 : p ≠ q) (h2 : c ≠ q) : Pen (upd H q o) p c n := by
  obtain ⟨a, acc, ns, e1, e2, e3, e4, e5⟩ := h.ex
  exact ⟨a, acc, ns, by rw [upd_ne h1]; exact e1, by rw [upd_ne h2]; exact e2, e3, e4, e5⟩
/-- a draw: the pen may turn, all else stands -/
structure Drew (p c : Addr) (H H' : Hp) (n : Nat) : Prop where
  pen : Pen H' p c n
  but : But p H H'
theorem Drew.trans {p c : Addr} {H H1 H2 : Hp} {n m : Nat} (a : Drew p c H H1 n) (b : Drew p c H1 H2 m) : Drew p c H H2 m := ⟨b.pen, a.but.trans b.but⟩
theorem Drew.keep {p c : Addr} {H H1 H2 : Hp} {n : Nat} (a : Drew p c H H1 n) (s : Same H1 H2) : Drew p c H H2 n := ⟨a.pen.keep s, a.but.trans (But.of s)⟩
theorem Drew.mono {p c : Addr} {H H1 : Hp} {n m : Nat} (a : Drew p c H H1 n) (l : n ≤ m) : Drew p c H H1 m := ⟨a.pen.mono l, a.but⟩
theorem Drew.pre {p c : Addr} {H H1 H2 : Hp} {n : Nat} (s : Same H H1) (a : Drew p c H1 H2 n) : Drew p c H H2 n := ⟨a.pen, (But.of s).trans a.but⟩
/-- law's: a list of at most 63 ints is handed in, True comes out -/
def spLaw (K : PySem.W.Frag) : Sp := fun vs H Q _ => ∃ (a : Addr) (ns : List Int), vs = [.ref a] ∧ SqL K H a (ns.map V.int) ∧ ns.length ≤ 63 ∧ ∀ H', Q (.bl true) H'
end Fld
namespace Fld
open PySem PySem.Spec PyProof.Rows L2
/-! ### what kind of value -/
inductive Kind (K : PySem.W.Frag) (H : Hp) : V → String → Prop where
  | non : Kind K H .non "NoneType"
  | bl (b : Bool) : Kind K H (.bl b) "bool"
  | int (i : Int) : Kind K H (.int i) "int"
  | str (x : Str) : Kind K H (.str x) "str"
  | flt (x : UInt64) : Kind K H (.flt x) "float"
  | lst {a : Addr} {xs : List V} (h : SqL K H a xs) : Kind K H (.ref a) "list"
  | tup {a : Addr} {xs : List V} (h : SqT K H a xs) : Kind K H (.ref a) "tuple"
  | dK {a : Addr} {kvs : List (Key × V)} (h : H a = some (.dK kvs)) : Kind K H (.ref a) "dict"
theorem tyL {K : PySem.W.Frag} {H : Hp} {a : Addr} {xs : List V} (h : SqL K H a xs) : TyX K H (.ref a) (.type "list") := by
  rcases h with (h | ⟨o, h⟩) | ⟨o, its, n, h1, h2, _⟩
  · exact .base (.lst h)
  · exact .base (.frz h)
  · exact .kList h1 h2
theorem tyT {K : PySem.W.Frag} {H : Hp} {a : Addr} {xs : List V} (h : SqT K H a xs) : TyX K H (.ref a) (.type "tuple") := by
  rcases h with (h | ⟨o, h⟩) | ⟨o, its, n, h1, h2, _⟩
  · exact .base (.tup h)
  · exact .fTuple h
  · exact .kTuple h1 h2
theorem Kind.ty {K : PySem.W.Frag} {H : Hp} {v : V} {t : String} (k : Kind K H v t) : TyX K H v (.type t) := by
  cases k with
  | non => exact .base .non
  | bl b => exact .base (.bl b)
  | int i => exact .base (.int i)
  | str x => exact .base (.str x)
  | flt x => exact .base (.flt x)
  | lst h => exact tyL h
  | tup h => exact tyT h
  | dK h => exact .base (.dK h)
def subT (a b : String) : Bool := a == b || (a == "bool" && b == "int")
def clsNames : List String := ["int", "bool", "str", "list", "tuple", "dict"]
theorem kitAll : (["NoneType", "bool", "int", "str", "float", "list", "tuple", "dict"].all fun a => clsNames.all fun b => kitB a b == some (subT a b)) = true := by decide +kernel
theorem Kind.mem {K : PySem.W.Frag} {H : Hp} {v : V} {t : String} (k : Kind K H v t) : t ∈ ["NoneType", "bool", "int", "str", "float", "list", "tuple", "dict"] := by
  cases k <;> decide
theorem Kind.kit {K : PySem.W.Frag} {H : Hp} {v : V} {t b : String} (k : Kind K H v t) (hb : clsNames.contains b = true := by decide) : PySem.W.kitOne K (.type t) (.type b) = some (subT t b) := by
  have h := List.all_eq_true.mp kitAll t k.mem
  have h2 := List.all_eq_true.mp h b (List.contains_iff_mem.mp hb)
  exact kit_ty (eq_of_beq h2)
theorem Kind.kit2 {K : PySem.W.Frag} {H : Hp} {v : V} {t b c : String} (k : Kind K H v t) (hb : clsNames.contains b = true := by decide) (hc : clsNames.contains c = true := by decide) :
    PySem.W.kitAny K (.type t) [.type b, .type c] = some (subT t b || subT t c) := by
  refine kitAny_cons (k.kit hb) (fun e => ?_) fun e => ?_
  · rw [e]
    refine kitAny_cons (k.kit hc) (fun e2 => ?_) fun e2 => ?_
    · rw [e2]; exact kitAny_nil
    · rw [e2]; rfl
  · rw [e]; rfl
theorem Kind.keep {K : PySem.W.Frag} {H H' : Hp} {v : V} {t : String} (k : Kind K H v t) (s : Same H H') : Kind K H' v t := by
  cases k with
  | non => exact .non
  | bl b => exact .bl b
  | int i => exact .int i
  | str x => exact .str x
  | flt x => exact .flt x
  | lst h => exact .lst (s.seq h)
  | @tup a xs h =>
    refine .tup (xs := xs) ?_
    rcases h with (h | ⟨o, h⟩) | h
    · exact .inl (.inl (s _ _ h))
    · exact .inl (.inr ⟨o, s _ _ h⟩)
    · exact .inr h
  | dK h => exact .dK (s _ _ h)
theorem ifb {c : Bool} {A B : Prop} (h1 : c = true → A) (h2 : c = false → B) : if c = true then A else B := by
  cases c
  · rw [if_neg (by decide)]; exact h2 rfl
  · rw [if_pos rfl]; exact h1 rfl
theorem Q_bl {Q : VK} {a b : Bool} {H : Hp} (h : Q (.bl a) H) (e : a = b) : Q (.bl b) H := e ▸ h
theorem Q_int {Q : VK} {a b : Int} {H : Hp} (h : Q (.int a) H) (e : a = b) : Q (.int b) H := e ▸ h
/-! ### is_between -/
def btw : V → Int → Int → Bool
  | .int i, a, b => decide (a ≤ i) && decide (i ≤ b)
  | _, _, _ => false
def sp_is_between (K : PySem.W.Frag) : Sp := fun vs H Q _ => ∃ (v : V) (t : String) (a b : Int), vs = [v, .int a, .int b] ∧ Kind K H v t ∧ Q (.bl (btw v a b)) H
end Fld
namespace Fld
open PySem PySem.Spec PyProof.Rows L2
/-! ### comprehensions -/
section
variable {J : It} {n : Nat} {G : Hp → Prop} {Y : Nat → Hp → V → Hp → Prop} {g : TG} {tt : TT} {te : TE} {vs : List Nat} {σ : L2.St} {H1 : Hp} {D : Addr} {Qd : Hp → Prop}
theorem yesI {σ : L2.St} {H : Hp} {A B : Hp → Prop} (h : A H) : tYes σ H (fun b H3 => if b = true then A H3 else B H3) := by
  show (if true = true then A H else B H)
  rw [if_pos rfl]; exact h
/-- by an invariant of the turn, the items so far, the heap -/
theorem lc_gen (w : Walk J n G Y) (I : Nat → List V → Hp → Prop) (hz : n ≤ 10000000) (h0 : I 0 [] (upd H1 D (.lst []))) (hG : ∀ i ys H, I i ys H → G H)
    (hs : ∀ i ys x H' H'' (Q' : VK) (Z : Hp → Prop), i < n → ys.length = i → H' D = some (.lst ys) → I i ys H' → Y i H' x H'' → (∀ y H4, H4 D = some (.lst ys) → I (i + 1) (ys ++ [y]) (upd H4 D (.lst (ys ++ [y]))) → Q' y H4) →
      g x (wipe σ vs) H'' fun σ2 H2 => wipe σ2 vs = wipe σ vs ∧ tYes σ2 H2 fun b H3 => if b = true then te σ2 H3 Q' else Z H3)
    (hd : ∀ ys H', ys.length = n → H' D = some (.lst ys) → I n ys H' → Qd H') :
    ∃ W : Nat → Nat → Hp → Prop, (∃ m, W 0 m (upd H1 D (.lst []))) ∧ ∀ i m H, W i m H →
      (J.stop i H ∧ Qd H) ∨ (J.go i H ∧ ∃ Nx : Hp → Prop, (∀ H', Nx H' → ∃ m', m' < m ∧ W (i + 1) m' H') ∧ ∀ x H', J.yld i H x H' → g x (wipe σ vs) H' fun σ2 H2 => wipe σ2 vs = wipe σ vs ∧ tYes σ2 H2 fun b H3 =>
        if b = true then te σ2 H3 fun y H4 => ∃ acc, H4 D = some (.lst acc) ∧ acc.length < sizeLine ∧ Nx (upd H4 D (.lst (acc ++ [y]))) else Nx H3) := by
  refine lc_it w (fun i H => ∃ ys : List V, ys.length = i ∧ H D = some (.lst ys) ∧ I i ys H) ⟨[], rfl, upd_same, h0⟩ (fun i H _ ⟨ys, _, _, h⟩ => hG i ys H h) ?_ ?_
  · rintro i x H H' hi ⟨ys, hl, hD, h⟩ y
    refine hs i ys x H H' _ _ hi hl hD h y fun z H4 e4 h4 => ?_
    refine ⟨ys, e4, ?_, ys ++ [z], by simp [hl], upd_same, h4⟩
    rw [sizeLine_eq]
    omega
  · rintro H ⟨ys, hl, hD, h⟩
    exact hd ys H hl hD h
/-- each item its value, all that stood stands -/
theorem lc_map (w : Walk J n G Y) (f : Nat → V) (hz : n ≤ 10000000) (hD : H1 D = none) (hG : ∀ H, Same H1 H → G H)
    (hs : ∀ i x H' H'' (Q' : VK) (Z : Hp → Prop), i < n → Same H1 H' → Y i H' x H'' → (∀ H4, Same H' H4 → Q' (f i) H4) →
      g x (wipe σ vs) H'' fun σ2 H2 => wipe σ2 vs = wipe σ vs ∧ tYes σ2 H2 fun b H3 => if b = true then te σ2 H3 Q' else Z H3)
    (hd : ∀ H', Same H1 H' → H' D = some (.lst ((List.range n).map f)) → Qd H') :
    ∃ W : Nat → Nat → Hp → Prop, (∃ m, W 0 m (upd H1 D (.lst []))) ∧ ∀ i m H, W i m H →
      (J.stop i H ∧ Qd H) ∨ (J.go i H ∧ ∃ Nx : Hp → Prop, (∀ H', Nx H' → ∃ m', m' < m ∧ W (i + 1) m' H') ∧ ∀ x H', J.yld i H x H' → g x (wipe σ vs) H' fun σ2 H2 => wipe σ2 vs = wipe σ vs ∧ tYes σ2 H2 fun b H3 =>
        if b = true then te σ2 H3 fun y H4 => ∃ acc, H4 D = some (.lst acc) ∧ acc.length < sizeLine ∧ Nx (upd H4 D (.lst (acc ++ [y]))) else Nx H3) := by
  have up : ∀ H o, Same H1 H → Same H1 (upd H D o) := fun H o s b u e => by rw [upd_ne (ne_of_none e hD)]; exact s b u e
  refine lc_gen w (fun i ys H => Same H1 H ∧ ys = (List.range i).map f) hz ⟨up _ _ (Same.refl _), rfl⟩ (fun i ys H h => hG H h.1) ?_ ?_
  · rintro i ys x H H' Q' Z hi hl hDl ⟨s, rfl⟩ y q
    refine hs i x H H' Q' Z hi s y fun H4 s4 => q (f i) H4 (s4 D _ hDl) ⟨up _ _ (s.trans s4), ?_⟩
    rw [List.range_succ, List.map_append]
    rfl
  · rintro ys H hl hDl ⟨s, rfl⟩
    exact hd H s hDl
end
/-- the items of a list by their places -/
theorem range_map {α β : Type} (l : List α) (f : α → β) (d : α) : (List.range l.length).map (fun i => f (l.getD i d)) = l.map f := by
  apply List.ext_getElem?
  intro i
  by_cases h : i < l.length
  · simp [h]
  · have h2 : l.length ≤ i := Nat.not_lt.mp h
    simp [h2]
theorem getD_of {α : Type} {l : List α} {i : Nat} {c : α} (d : α) (h : l[i]? = some c) : l.getD i d = c := by
  rw [List.getD_eq_getElem?_getD, h]; rfl
theorem cps_at {x : Str} {i c : Nat} (h : x.cps[i]? = some c) : x.cps.toList[i]? = some c := by
  rw [Array.getElem?_toList]; exact h
/-! ### texts and numbers -/
def isChar (c : Nat) : Bool := charCodes.contains c
theorem valI_chars (c : Nat) : (valI chars (c : Int)) = if isChar c then some (.str ⟨#[c]⟩) else none := by
  unfold valI chars isChar
  have h : ∀ l : List Nat, ((l.map fun (c : Nat) => (((c : Nat) : Int), V.str ⟨#[c]⟩)).find? fun p => p.1 == (c : Int)).map (·.2) = if l.contains c then some (V.str ⟨#[c]⟩) else none := by
    intro l
    induction l with
    | nil => rfl
    | cons a r ih =>
      rw [List.map_cons, List.find?_cons, List.contains_cons]
      by_cases e : a = c
      · subst e; simp
      · have e1 : (((a : Nat) : Int) == (c : Int)) = false := by
          rw [beq_eq_false_iff_ne]; intro q; exact e (by omega)
        have e2 : (c == a) = false := by rw [beq_eq_false_iff_ne]; exact fun q => e q.symm
        simp only [e1, e2, Bool.false_or]
        exact ih
  exact h charCodes
def txt : V → Int → Int → Bool
  | .str x, a, b => decide (a ≤ (x.length : Int)) && decide ((x.length : Int) ≤ b) && x.cps.toList.all isChar
  | _, _, _ => false
def sp_is_text (K : PySem.W.Frag) : Sp := fun vs H Q _ => ∃ (v : V) (t : String) (a b : Int), vs = [v, .int a, .int b] ∧ Kind K H v t ∧ (∀ x, v = .str x → x.length ≤ 100000) ∧ ∀ H', Same H H' → Q (.bl (txt v a b)) H'
def sp_is_value (K : PySem.W.Frag) : Sp := fun vs H Q _ => ∃ (v : V) (t : String), vs = [v] ∧ Kind K H v t ∧ (∀ x, v = .str x → x.length ≤ 100000) ∧ ∀ H', Same H H' → Q (.bl (txt v 0 40)) H'
def sp_is_number (K : PySem.W.Frag) : Sp := fun vs H Q _ => ∃ (v : V) (t : String), vs = [v] ∧ Kind K H v t ∧ Q (.bl (btw v 0 9999)) H
def sp_prefix_bits : Sp := fun vs H Q _ => ∃ (b : Nat), vs = [.int (b : Nat)] ∧ b ≤ 64 ∧ Q (.int (2 ^ b - 1)) H
theorem len100 {n : Nat} (h : n ≤ 100000) : n ≤ sizeLine := by rw [sizeLine_eq]; omega
theorem str_len (x : Str) : x.length = x.cps.toList.length := rfl
end Fld
namespace Fld
open PySem PySem.Spec PyProof.Rows L2
theorem ifF {c : Bool} {A B : Prop} (h : c = false) (b : B) : if c = true then A else B := by
  rw [h, if_neg (by decide)]; exact b
theorem ifT {c : Bool} {A B : Prop} (h : c = true) (a : A) : if c = true then A else B := by
  rw [h, if_pos rfl]; exact a
theorem _root_.L2.Same.at {H H' : Hp} {p : Addr} {o : HO} (hp : H p = none) : Same H (upd H p o) := Same.new hp
theorem _root_.L2.Same.put {H H' : Hp} {p : Addr} {o : HO} (s : Same H H') (hp : H p = none) : Same H (upd H' p o) := fun b u e => by rw [upd_ne (ne_of_none e hp)]; exact s b u e
theorem _root_.L2.Same.tup {K : PySem.W.Frag} {H H' : Hp} {a : Addr} {xs : List V} (s : Same H H') (h : SqT K H a xs) : SqT K H' a xs := by
  rcases h with (h | ⟨o, h⟩) | h
  · exact .inl (.inl (s _ _ h))
  · exact .inl (.inr ⟨o, s _ _ h⟩)
  · exact .inr h
theorem btw_t {n a b : Int} (h1 : a ≤ n) (h2 : n ≤ b) : btw (.int n) a b = true := by
  show (decide (a ≤ n) && decide (n ≤ b)) = true
  rw [decide_eq_true h1, decide_eq_true h2]; rfl
/-! ### the octets of a number -/
def restOct (r : Nat) : List Int := if r < 128 then [(r : Int)] else (128 + (r : Int) % 128) :: restOct (r / 128)
termination_by r
theorem restOct_lt {r : Nat} (h : r < 128) : restOct r = [(r : Int)] := by rw [restOct, if_pos h]
theorem restOct_ge {r : Nat} (h : ¬ r < 128) : restOct r = (128 + (r : Int) % 128) :: restOct (r / 128) := by rw [restOct, if_neg h]
theorem restOct_len (r : Nat) : (restOct r).length ≤ r + 1 := by
  induction r using Nat.strongRecOn with
  | _ r ih =>
    by_cases h : r < 128
    · rw [restOct_lt h]; simp
    · rw [restOct_ge h, List.length_cons]
      have := ih (r / 128) (by omega)
      omega
def numOct (n b m : Nat) : List Int := if n < 2 ^ b - 1 then [((m + n : Nat) : Int)] else ((m + (2 ^ b - 1) : Nat) : Int) :: restOct (n - (2 ^ b - 1))
theorem numOct_len (n b m : Nat) : (numOct n b m).length ≤ n + 2 := by
  unfold numOct
  split
  · simp
  · have := restOct_len (n - (2 ^ b - 1))
    rw [List.length_cons]
    omega
theorem pow_pos2 (b : Nat) : 0 < 2 ^ b := Nat.pow_pos (by decide)
theorem bits_cast (b : Nat) : ((2 : Int) ^ b - 1) = ((2 ^ b - 1 : Nat) : Int) := by
  have h := pow_pos2 b
  have e : ((2 : Int) ^ b) = ((2 ^ b : Nat) : Int) := by norm_cast
  rw [e]
  omega
theorem pow_le8 {b : Nat} (h : b ≤ 8) : 2 ^ b ≤ 256 := Nat.le_trans (Nat.pow_le_pow_right (by decide) h) (by decide)
/-- a mark that leaves the prefix alone -/
def MarkOk (b m : Nat) : Prop := 1 ≤ b ∧ b ≤ 8 ∧ m ≤ 255 ∧ Builtin.bitAnd (m : Int) (((2 ^ b - 1 : Nat)) : Int) = 0
theorem and127 {r : Int} (h : 0 ≤ r) : Builtin.bitAnd r 127 = r % 128 := Bits.bitAnd_mask 7 h
/-- a new list of ints is handed back -/
def RetInts (ns : List Int) (H : Hp) (Q : VK) : Prop := ∀ p H', H p = none → Same H H' → H' p = some (.lst (ns.map V.int)) → Q (.ref p) H'
def sp_check_prefix : Sp := fun vs H Q _ => ∃ b m : Nat, vs = [.int (b : Nat), .int (m : Nat)] ∧ MarkOk b m ∧ Q .non H
def sp_number_octets : Sp := fun vs H Q _ => ∃ n b m : Nat, vs = [.int (n : Nat), .int (b : Nat), .int (m : Nat)] ∧ n ≤ 9999 ∧ MarkOk b m ∧ RetInts (numOct n b m) H Q
def sp_string_octets : Sp := fun vs H Q _ => ∃ (x : Str) (b m : Nat), vs = [.str x, .int (b : Nat), .int (m : Nat)] ∧ txt (.str x) 0 40 = true ∧ MarkOk b m ∧ RetInts (numOct x.length b m ++ x.cps.toList.map fun (c : Nat) => (c : Int)) H Q
def sp_law_number_octets : Sp := fun vs H Q _ => ∃ n b m : Nat, vs = [.int (n : Nat), .int (b : Nat), .int (m : Nat)] ∧ n ≤ 9999 ∧ b ≤ 8 ∧ RetInts (numOct n b m) H Q
def codeOf (c : Nat) : Int := if isChar c then (c : Int) else 0
def sp_law_code : Sp := fun vs H Q _ => ∃ c : Nat, vs = [.str ⟨#[c]⟩] ∧ ∀ H', Same H H' → Q (.int (codeOf c)) H'
def sp_law_text_octets : Sp := fun vs H Q _ => ∃ (x : Str) (b m : Nat), vs = [.str x, .int (b : Nat), .int (m : Nat)] ∧ x.length ≤ 9999 ∧ b ≤ 8 ∧ RetInts (numOct x.length b m ++ x.cps.toList.map codeOf) H Q
theorem txt_len {x : Str} (h : txt (.str x) 0 40 = true) : x.length ≤ 40 := by
  have h' : (decide ((0 : Int) ≤ (x.length : Int)) && decide ((x.length : Int) ≤ 40) && x.cps.toList.all isChar) = true := h
  simp only [Bool.and_eq_true, decide_eq_true_eq] at h'
  omega
theorem txt_all {x : Str} {a b : Int} (h : txt (.str x) a b = true) : x.cps.toList.all isChar = true := by
  have h' : (decide (a ≤ (x.length : Int)) && decide ((x.length : Int) ≤ b) && x.cps.toList.all isChar) = true := h
  rw [Bool.and_eq_true] at h'
  exact h'.2
def codeRows : List (List Nat) := [(" " : Str).cps.toList, ("-./0123456789:;" : Str).cps.toList, ("=" : Str).cps.toList, ("abcdefghijklmnopqrstuvwxyz" : Str).cps.toList]
theorem codeRows_all : codeRows.flatten = charCodes := by decide +kernel
theorem code_yes {c : Nat} (i : Nat) {r : List Nat} (h : codeRows[i]? = some r) (hm : c ∈ r) : isChar c = true := by
  unfold isChar
  rw [← codeRows_all]
  exact List.contains_iff_mem.mpr (List.mem_flatten.mpr ⟨r, List.mem_of_getElem? h, hm⟩)
theorem code_no {c : Nat} (i : Nat) {r : List Nat} (h : codeRows[i]? = some r) (hc : c ∉ (codeRows.take i).flatten) (hm : c ∉ r) : c ∉ (codeRows.take (i + 1)).flatten := by
  rw [List.take_add_one, h, List.flatten_append]
  intro z
  rcases List.mem_append.mp z with z | z
  · exact hc z
  · exact hm (by simpa using z)
theorem code_none {c : Nat} (hc : c ∉ (codeRows.take 4).flatten) : isChar c = false := by
  unfold isChar
  rw [← codeRows_all]
  have e : codeRows.take 4 = codeRows := rfl
  rw [e] at hc
  cases h : codeRows.flatten.contains c
  · rfl
  · exact absurd (List.contains_iff_mem.mp h) hc
theorem row_ok {x : Str} {first : Nat} (h : ((List.range x.cps.size).all fun i => x.cps.toList.getD i 0 == first + i) = true) : ∀ i r, x.cps[i]? = some r → r = first + i := by
  intro i r hr
  have hi : i < x.cps.size := (Array.getElem?_eq_some_iff.mp hr).1
  have e := eq_of_beq (List.all_eq_true.mp h i (List.mem_range.mpr hi))
  rw [getD_of 0 (cps_at hr)] at e
  exact e
theorem codes_chars {x : Str} (h : x.cps.toList.all isChar = true) : x.cps.toList.map codeOf = x.cps.toList.map fun (c : Nat) => (c : Int) := by
  apply List.map_congr_left
  intro c hc
  have := List.all_eq_true.mp h c hc
  unfold codeOf
  rw [if_pos this]
end Fld
namespace Fld
open PySem PySem.Spec PyProof.Rows L2
theorem at_ofN {α : Type} {xs : List α} {z : Int} {j : Nat} {v : α} (e : z = (j : Int)) (h : xs[j]? = some v) : atI xs z = some v := by
  rw [e]; exact atI_nat h
/-! ### slices by places -/
theorem cut_to (xs : List V) (k : Nat) : cutV xs none (some (k : Int)) = xs.take k := by
  unfold cutV
  rw [HT.sIx_none, HT.sIx_nat, List.drop_zero, Nat.sub_zero]
  by_cases h : k ≤ xs.length
  · rw [Nat.min_eq_left h]
  · rw [Nat.min_eq_right (by omega), List.take_of_length_le (Nat.le_refl _), List.take_of_length_le (by omega)]
theorem cut_mid (xs : List V) (a b : Nat) : cutV xs (some (a : Int)) (some (b : Int)) = (xs.drop a).take (b - a) := by
  unfold cutV
  rw [HT.sIx_nat, HT.sIx_nat]
  by_cases h : a ≤ xs.length
  · have e1 : min a xs.length = a := by omega
    rw [e1]
    by_cases h2 : b ≤ xs.length
    · have e2 : min b xs.length = b := by omega
      rw [e2]
    · rw [List.take_of_length_le (by rw [List.length_drop]; omega), List.take_of_length_le (by rw [List.length_drop]; omega)]
  · have e1 : min a xs.length = xs.length := by omega
    rw [e1, List.drop_eq_nil_of_le (Nat.le_refl _), List.drop_eq_nil_of_le (by omega), List.take_nil, List.take_nil]
theorem cut_from (xs : List V) (a : Nat) : cutV xs (some (a : Int)) none = xs.drop a := by
  unfold cutV
  rw [HT.sIx_nat, HT.sIx_none]
  by_cases h : a ≤ xs.length
  · rw [Nat.min_eq_left h, List.take_of_length_le (by rw [List.length_drop]; omega)]
  · rw [Nat.min_eq_right (by omega), List.drop_eq_nil_of_le (Nat.le_refl _), List.drop_eq_nil_of_le (by omega), List.take_nil]
/-! ### the spread -/
def primes : List Int := [2147483629, 2147483587, 2147483579, 2147483563, 2147483549, 2147483543, 2147483497, 2147483489, 2147483477, 2147483423, 2147483399, 2147483353, 2147483323]
theorem primes_at {k : Int} (h0 : 0 ≤ k) (h : k < 13) : ∃ r : Int, atI (primes.map V.int) k = some (.int r) ∧ 0 < r ∧ r < 2147483648 := by
  have hk : k.toNat < 13 := by omega
  have ek : k = ((k.toNat : Nat) : Int) := by omega
  have hall : ((List.range 13).all fun i => (primes[i]?).any fun r => decide (0 < r) && decide (r < 2147483648)) = true := by decide
  have h1 := List.all_eq_true.mp hall k.toNat (List.mem_range.mpr hk)
  cases e : primes[k.toNat]? with
  | none => rw [e] at h1; cases h1
  | some r =>
    rw [e] at h1
    have h2 : (decide (0 < r) && decide (r < 2147483648)) = true := h1
    rw [Bool.and_eq_true, decide_eq_true_eq, decide_eq_true_eq] at h2
    refine ⟨r, ?_, h2.1, h2.2⟩
    rw [ek]
    exact atI_nat (by rw [List.getElem?_map, e]; rfl)
theorem pow_small {i : Int} (h0 : 0 ≤ i) (h : i < 10 ^ 18) : i.natAbs < 2 ^ 64 := by
  have : (10 : Int) ^ 18 < 2 ^ 63 := by decide
  have e : (2 : Nat) ^ 64 = 18446744073709551616 := by decide
  have e2 : (10 : Int) ^ 18 = 1000000000000000000 := by decide
  omega
theorem mul_bd {a b A B : Int} (h1 : 0 ≤ a) (h2 : a ≤ A) (h3 : 0 ≤ b) (h4 : b ≤ B) : 0 ≤ a * b ∧ a * b ≤ A * B :=
  ⟨Int.mul_nonneg h1 h3, Int.mul_le_mul h2 h4 h3 (Int.le_trans h1 h2)⟩
theorem mul64 {a b : Int} (h1 : 0 ≤ a) (h2 : a < 10 ^ 18) : CMul a b := by
  have e : (2 : Int) ^ 64 = 18446744073709551616 := by decide
  have e2 : (10 : Int) ^ 18 = 1000000000000000000 := by decide
  refine .inl ⟨?_, ?_⟩ <;> omega
def sp_law_spread : Sp := fun vs H Q _ => ∃ (cell : Int) (a : Nat), vs = [.int cell, .int (a : Nat)] ∧ a ≤ 1000000 ∧ ∀ (r : Int) H', Same H H' → Q (.int r) H'
def sp_law_open (K : PySem.W.Frag) : Sp := fun vs H Q _ => ∃ (a : Addr) (ns : List Int), vs = [.ref a] ∧ SqL K H a (ns.map V.int) ∧ ns.length ≤ 63 ∧ ∀ p c H', H p = none → Same H H' → Pen H' p c 0 → Q (.ref p) H'
def sp_law_take : Sp := fun vs H Q _ => ∃ (p c : Addr) (n : Nat) (k : Int), vs = [.ref p, .int k] ∧ Pen H p c n ∧ 0 < k ∧ k < 1073741824 ∧ n ≤ 900000 ∧ ∀ (r : Int) H', 0 ≤ r → r < k → Drew p c H H' (n + 1) → Q (.int r) H'
/-- one of a list's items, whatever they are -/
def sp_law_one_of (K : PySem.W.Frag) : Sp := fun vs H Q _ => ∃ (p c a : Addr) (n : Nat) (xs : List V), vs = [.ref p, .ref a] ∧ Pen H p c n ∧ SqL K H a xs ∧ a ≠ p ∧ xs ≠ [] ∧ xs.length ≤ 1000 ∧ n ≤ 900000 ∧ ∀ (x : V) H', x ∈ xs → Drew p c H H' (n + 1) → Q x H'
def signs : Str := " -./0123456789:;=abcdefghijklmnopqrstuvwxyz"
def sp_law_signs : Sp := fun vs H Q _ => vs = [] ∧ Q (.str signs) H
theorem signs_cps : signs.cps.toList = charCodes := by decide +kernel
theorem But.seq {K : PySem.W.Frag} {p : Addr} {H H' : Hp} {a : Addr} {xs : List V} (b : But p H H') (n : a ≠ p) (h : SqL K H a xs) : SqL K H' a xs := by
  rcases h with (h | ⟨o, h⟩) | h
  · exact .inl (.inl (b _ _ n h))
  · exact .inl (.inr ⟨o, b _ _ n h⟩)
  · exact .inr h
end Fld
namespace Fld
open PySem PySem.Spec PyProof.Rows L2
def sp_law_draw_text : Sp := fun vs H Q _ => ∃ (p c : Addr) (n a b : Nat), vs = [.ref p, .int (a : Nat), .int (b : Nat)] ∧ Pen H p c n ∧ n ≤ 800000 ∧ a ≤ 1 ∧ a ≤ b ∧ b ≤ 40 ∧ ∀ (x : Str) H', txt (.str x) a b = true → Drew p c H H' (n + 50) → Q (.str x) H'
def sp_law_draw_number : Sp := fun vs H Q _ => ∃ (p c : Addr) (n : Nat), vs = [.ref p] ∧ Pen H p c n ∧ n ≤ 800000 ∧ ∀ (z : Nat) H', z ≤ 9999 → Drew p c H H' (n + 10) → Q (.int (z : Nat)) H'
theorem txt_of {x : Str} {a b : Int} (h1 : a ≤ (x.length : Int)) (h2 : (x.length : Int) ≤ b) (h3 : x.cps.toList.all isChar = true) : txt (.str x) a b = true := by
  show (decide (a ≤ (x.length : Int)) && decide ((x.length : Int) ≤ b) && x.cps.toList.all isChar) = true
  rw [decide_eq_true h1, decide_eq_true h2, h3]; rfl
/-- a text of one sign after another -/
theorem join_signs (cs : List Nat) : Txt.join ⟨#[]⟩ (cs.map fun c => (⟨#[c]⟩ : Str)) = ⟨cs.toArray⟩ := by
  rw [TL.join_eq]
  apply TL.ext_tl
  rw [TL.tl_join]
  have h : ∀ l : List Nat, TL.joinL (TL.tl (⟨#[]⟩ : Str)) ((l.map fun c => (⟨#[c]⟩ : Str)).map TL.tl) = l := by
    intro l
    induction l with
    | nil => rfl
    | cons a r ih =>
      cases r with
      | nil => rfl
      | cons b r' =>
        show [a] ++ ([] ++ TL.joinL [] _) = a :: b :: r'
        exact congrArg (a :: ·) ih
  rw [h]
/-- the first signs of a word repeated -/
theorem rep_all {z : Str} {n : Nat} (h : z.cps.toList.all isChar = true) : (repS z n).cps.toList.all isChar = true := by
  rw [repS_tl]
  rw [List.all_eq_true]
  intro c hc
  obtain ⟨l, hl, hcl⟩ := List.mem_flatten.mp hc
  rw [List.mem_replicate] at hl
  rw [hl.2] at hcl
  exact List.all_eq_true.mp h c hcl
theorem rep_len (z : Str) (n : Nat) : (repS z n).length = n * z.length := by
  show (List.replicate n z.cps.toList).flatten.toArray.size = _
  simp
  rfl
theorem cutS_to (x : Str) (k : Nat) : (cutS x none (some (k : Int))).cps.toList = x.cps.toList.take k := by
  unfold cutS
  show (x.cps.toList.drop _).take _ = _
  rw [HT.sIx_none, HT.sIx_nat, List.drop_zero, Nat.sub_zero]
  have e : x.length = x.cps.toList.length := rfl
  rw [e]
  by_cases h : k ≤ x.cps.toList.length
  · rw [Nat.min_eq_left h]
  · rw [Nat.min_eq_right (by omega), List.take_of_length_le (Nat.le_refl _), List.take_of_length_le (by omega)]
theorem txt_cut {x : Str} {a b k : Nat} (h1 : 9 ≤ x.length) (h2 : a ≤ 1 ∧ a ≤ k ∧ k ≤ b) (h3 : x.cps.toList.all isChar = true) : txt (.str (cutS x none (some (k : Int)))) a b = true := by
  have e : (cutS x none (some (k : Int))).cps.toList = x.cps.toList.take k := cutS_to x k
  have hl : (cutS x none (some (k : Int))).length = min k x.length := by
    show (cutS x none (some (k : Int))).cps.size = _
    rw [← Array.length_toList, e, List.length_take]
    rfl
  refine txt_of (by omega) (by omega) ?_
  rw [e, List.all_eq_true]
  intro c hc
  exact List.all_eq_true.mp h3 c (List.mem_of_mem_take hc)
def textWords : List Str := ["path", "accept-encoding", "a", ":method", "x=1; y=2"]
theorem words_ok : (textWords.all fun z => z.cps.toList.all isChar && decide (0 < z.length) && decide (z.length ≤ 15)) = true := by decide +kernel
/-! ### data of a bounded depth -/
def DLe : Nat → PyData → Prop
  | _, .none => True
  | _, .bool _ => True
  | _, .int _ => True
  | _, .str _ => True
  | 0, .list _ => False
  | 0, .tuple _ => False
  | n + 1, .list ds => ds.length ≤ 100000 ∧ ∀ d ∈ ds, DLe n d
  | n + 1, .tuple ds => ds.length ≤ 100000 ∧ ∀ d ∈ ds, DLe n d
  | _, _ => False
theorem dpAll_len {K : PySem.W.Frag} {H : Hp} : ∀ {xs : List V} {ds : List PyData}, DpAll K H xs ds → xs.length = ds.length
  | _, _, .nil => rfl
  | _, _, .cons _ t => by rw [List.length_cons, List.length_cons, dpAll_len t]
theorem dpAll_at {K : PySem.W.Frag} {H : Hp} : ∀ {xs : List V} {ds : List PyData} {i : Nat} {x : V}, DpAll K H xs ds → xs[i]? = some x → ∃ d, ds[i]? = some d ∧ Dp K H x d
  | _, _, _, _, .nil, e => by simp at e
  | _, _, 0, _, .cons h _, e => by simp at e; subst e; exact ⟨_, rfl, h⟩
  | _, _, i + 1, x, .cons _ t, e => by
    obtain ⟨d, h1, h2⟩ := dpAll_at (i := i) (x := x) t (by simpa using e)
    exact ⟨d, by simpa using h1, h2⟩
mutual
theorem dp_keep {K : PySem.W.Frag} {H H' : Hp} (s : Same H H') : ∀ {v : V} {d : PyData}, Dp K H v d → Dp K H' v d
  | _, _, .non => .non
  | _, _, .bl b => .bl b
  | _, _, .int i => .int i
  | _, _, .str x => .str x
  | _, _, .lst h a => .lst (s.seq h) (dpAll_keep s a)
  | _, _, .tup h a => .tup (s.tup h) (dpAll_keep s a)
theorem dpAll_keep {K : PySem.W.Frag} {H H' : Hp} (s : Same H H') : ∀ {vs : List V} {ds : List PyData}, DpAll K H vs ds → DpAll K H' vs ds
  | _, _, .nil => .nil
  | _, _, .cons h t => .cons (dp_keep s h) (dpAll_keep s t)
end
/-- _law_same on two values of the same data -/
def sp_law_same (K : PySem.W.Frag) (n : Nat) : Sp := fun vs H Q _ => ∃ (v u : V) (d : PyData), vs = [v, u] ∧ Dp K H v d ∧ Dp K H u d ∧ DLe n d ∧ ∀ H', Same H H' → Q (.bl true) H'
def sp_same_sub (K : PySem.W.Frag) : Nat → Sp
  | 0 => fun _ _ _ _ => False
  | m + 1 => sp_law_same K m
theorem walk_zipT {K : PySem.W.Frag} {a b : Addr} {xs ys : List V} {n : Nat} (hn : n = min xs.length ys.length) : Walk (RZ.ItzT K a b) n (fun H => SqT K H a xs ∧ SqT K H b ys) (YPair (fun i => xs[i]?) (fun i => ys[i]?)) := by
  subst hn
  refine ⟨fun i _ hi q => ?_, fun _ q => ⟨xs, ys, q.1, q.2, by omega⟩, fun i H v H' _ q y => ?_⟩
  · have h1 : i < xs.length := by omega
    have h2 : i < ys.length := by omega
    exact ⟨xs, ys, xs[i], ys[i], q.1, q.2, by simp [h1], by simp [h2]⟩
  · obtain ⟨T, x, z, h1, h2, h3, h4, h5⟩ := y
    exact ⟨T, x, z, h1, h2, h3, h4 xs q.1, h5 ys q.2⟩
theorem flat_trues (n : Nat) : ((List.range n).map fun _ => V.bl true).all flatV = true := by
  rw [List.all_map]; exact List.all_eq_true.mpr fun _ _ => rfl
theorem in_trues (n : Nat) : inV (.bl false) ((List.range n).map fun _ => V.bl true) = false := by
  unfold inV
  rw [List.any_map, List.any_eq_false]
  intro i _
  show ¬ (eqV (.bl true) (.bl false)) = true
  decide
/-- ints as data -/
theorem dp_ints {K : PySem.W.Frag} {H : Hp} : ∀ ns : List Int, DpAll K H (ns.map V.int) (ns.map PyData.int)
  | [] => .nil
  | n :: r => .cons (.int n) (dp_ints r)
theorem dp_lst {K : PySem.W.Frag} {H : Hp} {a : Addr} {ns : List Int} (h : H a = some (.lst (ns.map V.int))) : Dp K H (.ref a) (.list (ns.map PyData.int)) := .lst (SqL.of h) (dp_ints ns)
theorem dle_ints {ns : List Int} (h : ns.length ≤ 100000) (n : Nat) : DLe (n + 1) (.list (ns.map PyData.int)) := by
  refine ⟨by rw [List.length_map]; exact h, fun d hd => ?_⟩
  obtain ⟨i, _, rfl⟩ := List.mem_map.mp hd
  cases n <;> exact True.intro
end Fld
/-! The law's own def where what runs around it is known: no repr, no == is under way (Around.guards), so that repr of data may be walked in it. -/
namespace Fld
open PySem PySem.Spec PyProof.Rows L2
/-- a def as it is called from outside -/
structure TopOk (P : Program) (w : World) (K : PySem.W.Frag) (mg : Str → Option Value) (k : Nat) (f : Addr) (fd : FuncData) (ps : List Str) (sp : Sp) : Prop where
  len : ∀ vs H Q E, sp vs H Q E → vs.length = ps.length
  run : ∀ (base : Heap) (s : Shared) (H : Hp) (args : Args) (us : List Value) (vs : List V) (Q : VK) (E : XK), Room k callerA → Env0 P w K mg base callerA [] s H → BindsTo s fd args (ps.zip us) → Vals vs us → sp vs H Q E →
    codeAny (model P w) callerA (.call (.ref f) args) (CR CX0 [] P w H s Q E) s
/-- its body as a term of rules and the term's reading, the guards told -/
theorem top_of {P : Program} {w : World} {K : PySem.W.Frag} {mg : Str → Option Value} {x qual : Str} {st : Stmt} {f : Addr} {fd : FuncData} {N ps : List Str} {k : Nat} {sp : Sp} (F : Fun K x qual st f fd) (S : FnScope N ps (defScope st))
    (len : ∀ vs H Q E, sp vs H Q E → vs.length = ps.length)
    (hbody : ∀ (base : Heap) (cdv : Value) (A : Around) (outer : List Env) (s : Shared) (H : Hp) (vs : List V) (Q : VK) (E : XK), A.guards = some [] → Room k (A.deeper (envOfC qual (defScope st) s.heap.objs.size f cdv)) → sp vs H Q E →
      ∃ t, PSs (cxOf CX0 P w K mg base N qual (defScope st) f cdv A outer s H E).nox (defBody st) t ∧ t { nx := fun _ H' => Q .non H', rt := Q } (start N vs) H) :
    TopOk P w K mg (k + 1) f fd ps sp := by
  obtain ⟨oc, od, kV, doc, pm, an, cdv, ct, osl, rfl, lk, hcd⟩ := F.ex
  refine ⟨len, ?_⟩
  intro base s H args us vs Q E hr e0 hb r hsp
  have old := fun b o (e : base.get? b = some o) => (e0.bs b o e).1
  have KX : K.In s.heap := e0.mod.kin.keeps old
  have kinds : ∀ y ∈ ps.zip us, (defScope st).names.lookup y.1 = some .local ∨ ((defScope st).names.lookup y.1 = some .cell ∧ ((cellsFrom (s.heap.objs.size + 1) (defScope st).names []).lookup y.1).isSome = true) := by
    rintro ⟨n, v⟩ hy
    have hp := S.par n (List.of_mem_zip hy).1
    exact hp.elim Or.inl fun q => Or.inr ⟨q, PySem.W.cellsFrom_some _ _ _ (Or.inl q)⟩
  refine codeAny_call_function hr.depth (KX _ _ lk) rfl S.co S.gen rfl (PySem.W.codeRec_of KX hcd) (hb _ _ _ _ (wpAny_newFunctionEnv_cells S.kind kinds ?_))
  intro env he s1 x
  cases he
  refine ⟨(e0.mod.nolimit.keeps old).keeps x.toInCall.keep, codeAny_func ?_⟩
  obtain ⟨t, ht, hq⟩ := hbody base cdv callerA [] s H vs Q E rfl (hr.deeper _) hsp
  have I := inv_start (CX := CX0) (E := E) S hr.hd e0 (len _ _ _ _ hsp) r x
  refine wpAny_mono (ht.nox.run [] s1 (start N vs) H _ I hq) ?_ fun _ _ z => z
  intro fl s' hs
  match fl, hs with
  | .ret u, ⟨v, _, H', J, rv, q⟩ => exact ⟨v, H', J.os, J.bare, J.base, J.hok, rv, q⟩
  | .next, ⟨_, H', J, q⟩ => exact ⟨V.non, H', J.os, J.bare, J.base, J.hok, rfl, q⟩
  | .brk, ⟨_, _, _, q⟩ => exact q.elim
  | .cont, ⟨_, _, _, q⟩ => exact q.elim
/-- the abstract heap at the law's entry: the script alone, locked, or nothing where it is one of the module's own -/
theorem entry_heap {P : Program} {w : World} {K : PySem.W.Frag} {s : Shared} {a : Addr} {vs : List Value} {ns : List Int} (KX : K.In s.heap) (ha : s.heap.get? a = some { cls := .type "list", data := .seq vs.toArray }) (hi : IntsAre vs ns) (hl : ns.length ≤ sizeLine) :
    ∃ H : Hp, Only H ∧ SqL K H a (ns.map V.int) ∧ HOk P w H s.heap ∧ (∀ b, H b ≠ none → b = a) ∧ (H a ≠ none → K.lookup a = none) := by
  have rv := vals_of_ints hi
  cases hk : K.lookup a with
  | some o =>
    have e := (KX a o hk).symm.trans ha
    cases e
    refine ⟨fun _ => none, fun _ => .inl rfl, .inr ⟨_, vs.toArray, _, hk, rfl, rfl, rfl, ?_, by simpa using rv⟩, fun b u z => (nomatch z), fun b z => absurd rfl z, fun z => absurd rfl z⟩
    rw [List.size_toArray, hi.length]
    exact hl
  | none =>
    let H : Hp := fun b => if b = a then some (.frz { cls := .type "list", data := .seq vs.toArray } (.lst (ns.map V.int))) else none
    have at_a : H a = some (.frz { cls := .type "list", data := .seq vs.toArray } (.lst (ns.map V.int))) := if_pos rfl
    have off : ∀ b, b ≠ a → H b = none := fun b hb => if_neg hb
    refine ⟨H, fun b => ?_, .inl (.inr ⟨_, at_a⟩), fun b u z => ?_, fun b z => ?_, fun _ => rfl⟩
    · by_cases hb : b = a
      · subst hb; exact .inr ⟨_, _, at_a⟩
      · exact .inl (off b hb)
    · by_cases hb : b = a
      · subst hb
        rw [at_a] at z
        cases z
        exact ⟨ha, by rw [List.length_map]; exact hl, vs, _, rv, ha⟩
      · rw [off b hb] at z
        cases z
    · by_cases hb : b = a
      · exact hb
      · exact absurd (off b hb) z
theorem top_call {P : Program} {w : World} {K : PySem.W.Frag} {mg mb : Str → Option Value} {k : Nat} {fa a : Addr} {fd : FuncData} {x : Str} {sp : Sp} {s : Shared} {vs : List Value} {ns : List Int}
    (KX : K.In s.heap) (hns : s.heap.Ns mainGlobals mg) (hb : s.heap.Ns builtinsNs mb) (hbb : ∀ x : Str, x ≠ "__name__" → mb x = bootBuiltins x) (hlim : s.heap.NoLimit) (hg : s.gens = #[])
    (ha : s.heap.get? a = some { cls := .type "list", data := .seq vs.toArray }) (hi : IntsAre vs ns) (hl : ns.length ≤ sizeLine) (hr : Room k callerA) (F : TopOk P w K mg k fa fd [x] sp) (hbind : ∀ (s : Shared) (u : Value), BindsTo s fd ⟨[u], []⟩ [(x, u)])
    (hsp : ∀ H : Hp, Only H → SqL K H a (ns.map V.int) → sp [.ref a] H (fun v _ => v = .bl true) fun _ _ _ => False) :
    codeAny (model P w) callerA (.call (.ref fa) ⟨[.ref a], []⟩) (fun r s' => r = .ok (.ret (.bool true)) ∧ OldK s.heap s'.heap ∧ s'.os = s.os ∧ AllBare s'.gens) s := by
  obtain ⟨H, hO, hS, hok, hA, hK⟩ := entry_heap (P := P) (w := w) KX ha hi hl
  have other : ∀ {b : Addr} {o : Obj}, s.heap.get? b = some o → (b = a → False) → (hidT s.heap H).get? b = some o := fun {b o} e n => hidT_get e (by
    cases q : H b with
    | none => rfl
    | some u => exact (n (hA b (by rw [q]; simp))).elim)
  have noD : ∀ {b : Addr} {m : Str → Option Value}, s.heap.Ns b m → (hidT s.heap H).Ns b m := fun {b m} ⟨o, es, ep, e, d, r⟩ => ⟨o, es, ep, other e (fun z => by
    rw [z, ha] at e; cases e; cases d), d, r⟩
  have inK : K.In (hidT s.heap H) := fun b o e => hidT_get (KX b o e) (by
    cases q : H b with
    | none => rfl
    | some u =>
      have z := hA b (by rw [q]; simp)
      subst z
      rw [hK (by rw [q]; simp)] at e
      cases e)
  have M : Mod K mg (hidT s.heap H) := ⟨inK, noD hns, ⟨mb, noD hb, hbb⟩, let ⟨mc, h1, h2⟩ := hlim; ⟨mc, noD h1, h2⟩⟩
  have none_in : ∀ b : Addr, b ∉ frs [] := fun b z => (nomatch (show b ∈ ([] : List Addr) from z))
  have e0 : Env0 P w K mg (hidT s.heap H) callerA [] s H := { frames := rfl, mod := M, bs := fun b o e => of_hidT e, bsz := Nat.le_of_eq (hidT_size _ _), funs := trivial, frf := fun b z => (none_in b z).elim, hok := hok, bare := .of_eq hg }
  refine codeAny_mono (F.run _ s H ⟨[.ref a], []⟩ [.ref a] [.ref a] _ _ hr e0 (hbind s (.ref a)) (.cons rfl .nil) (hsp H hO hS)) ?_
  intro r s' h
  match r, h with
  | .ok (.ret u), ⟨v, H', os, bare, un, hok', rv, q⟩ =>
    cases (show v = .bl true from q)
    cases (show u = Value.bool true from rv)
    refine ⟨rfl, OldK.of_keep fun b o e => ?_, os, bare⟩
    rcases hO b with z | ⟨ob, xs, z⟩
    · exact un.keep b o e z (none_in b) (by simp)
    · have e1 := (hok b _ z).1
      rw [e] at e1
      cases e1
      exact (hok' b _ (un.frzs b _ _ z)).1
theorem walk_top {l : PySem.W.OpenLaw} {n k : Nat} {q : Program} {loose : List Str} {XP : (Str → Option Value) → Heap → Prop} {YP : World → Heap → Prop} {d : DefRec} {K : Params → PySem.W.Frag} {sp : World → Sp} {x : Str}
    (hn : l.most = some n) (hn2 : n ≤ sizeLine) (hdf : d.params.defaults = []) (hr : Room k callerA)
    (hY : ∀ (w : World) (h : Heap), YP w h → (K w.params).In h)
    (F : ∀ (w : World) (mg : Str → Option Value) (fa : Addr) (h : Heap), (K w.params).In h → h.Ns mainGlobals mg → mg d.name = some (.ref fa) →
      ∃ fd : FuncData, (∀ (s : Shared) (u : Value), BindsTo s fd ⟨[u], []⟩ [(x, u)]) ∧ TopOk l.prog w (K w.params) mg k fa fd [x] (sp w))
    (hsp : ∀ (w : World) (H : Hp) (a : Addr) (ns : List Int), ns.length ≤ n → Only H → SqL (K w.params) H a (ns.map V.int) → sp w [.ref a] H (fun v _ => v = .bl true) fun _ _ _ => False) :
    PySem.W.WalkO q loose XP YP l.row.toRowW d [] (fun f vs => PySem.call f vs) := by
  refine Att.attach_call hn hdf ?_
  intro w s₀ s₁ mg mb fa o pm cd doc a vs ns G Y ho hd hcd hmg hobj hints hlen hg
  obtain ⟨fd, hbi, hF⟩ := F w mg fa _ (hY w _ Y) G.T.g hmg
  exact top_call (hY w _ Y) G.T.g G.T.b G.T.builtins G.T.nolimit hg hobj hints (Nat.le_trans hlen hn2) hr hF hbi fun H hO hS => hsp w H a ns hlen hO hS
end Fld
/-! repr of data: how long its text may be, and the rule of the call. -/
namespace Fld
open PySem PySem.Spec PyProof.Rows L2
mutual
def okD : PyData → Bool
  | .none => true
  | .bool _ => true
  | .int i => decide (i.natAbs < 2 ^ 1000)
  | .str x => x.cps.toList.all fun c => decide (c < 4294967296)
  | .list xs => okAll xs
  | .tuple xs => okAll xs
  | .dict _ => false
def okAll : List PyData → Bool
  | [] => true
  | x :: xs => okD x && okAll xs
end
mutual
/-- no less than the length of its text -/
def wD : PyData → Nat
  | .none => 4
  | .bool _ => 5
  | .int _ => 1010
  | .str x => 10 * x.length + 2
  | .list xs => wAll xs + 4
  | .tuple xs => wAll xs + 4
  | .dict _ => 0
def wAll : List PyData → Nat
  | [] => 0
  | x :: xs => wD x + 2 + wAll xs
end
theorem textFrom_le : ∀ (ts : List Str) (k : Nat) (acc : Str), (textFrom k acc ts).length ≤ acc.length + piled ts
  | [], k, acc => by show acc.length ≤ _; omega
  | t :: r, k, acc => by
    have ih := textFrom_le r (k + 1) (acc ++ (if k > 0 then ", " else "" : String) ++ t)
    have e : (acc ++ (if k > 0 then ", " else "" : String) ++ t).length ≤ acc.length + 2 + t.length := by
      rw [strLen_append, strLen_append]
      split
      · exact Nat.le_refl _
      · show acc.length + 0 + t.length ≤ _; omega
    have e2 : piled (t :: r) = t.length + 2 + piled r := by unfold piled; rw [List.map_cons, List.sum_cons]
    show (textFrom (k + 1) _ r).length ≤ _
    omega
theorem listText_le (ts : List Str) : (listText ts).length ≤ piled ts + 4 := by
  unfold listText
  rw [strLen_append]
  have h := textFrom_le ts 0 "["
  have e1 : ((("[" : String) : Str)).length = 1 := rfl
  have e2 : ((("]" : String) : Str)).length = 1 := rfl
  omega
theorem tupleText_le (ts : List Str) : (tupleText ts).length ≤ piled ts + 4 := by
  unfold tupleText
  rw [strLen_append, strLen_append]
  have e1 : ((("(" : String) : Str)).length = 1 := rfl
  have e3 : (((if ts.length == 1 then ",)" else ")" : String) : Str)).length ≤ 2 := by split <;> decide
  by_cases h : ts = []
  · subst h
    have e0 : (Str.join ", " []).length = 0 := rfl
    omega
  · have := join_length_add ts h
    omega
theorem toString_le {i : Int} (h : i.natAbs < 2 ^ 1000) : (Str.ofString (toString i)).length ≤ 1010 := by
  have h1 : (Nat.repr i.natAbs).length ≤ 1000 := nat_repr_length_le (by decide) h
  have e : ∀ z : String, (Str.ofString z).length = z.length := fun z => by
    rw [TL.len_tl, TL.tl_ofString, List.length_map]
    rfl
  rw [e]
  cases i with
  | ofNat n =>
    have : (toString (Int.ofNat n)) = Nat.repr n := rfl
    rw [this]
    have h2 : (Nat.repr n).length ≤ 1000 := h1
    omega
  | negSucc n =>
    have : (toString (Int.negSucc n)) = "-" ++ Nat.repr (n + 1) := rfl
    rw [this, String.length_append]
    have h2 : (Nat.repr (n + 1)).length ≤ 1000 := h1
    have h3 : ("-" : String).length = 1 := rfl
    omega
theorem log_le {n : Nat} (h : n < 2 ^ 1000) : n.log2 < 1920 := by
  by_cases e : n = 0
  · subst e; decide
  · exact Nat.lt_trans ((Nat.log2_lt e).mpr h) (by decide)
mutual
theorem shown_le : ∀ d : PyData, okD d = true → d.shown.length ≤ wD d ∧ d.showable = true ∧ d.hasDict = false
  | .none, _ => ⟨by decide, rfl, rfl⟩
  | .bool b, _ => ⟨by cases b <;> decide, rfl, rfl⟩
  | .int i, h => by
    have h' : i.natAbs < 2 ^ 1000 := of_decide_eq_true (show decide _ = true from h)
    exact ⟨toString_le h', decide_eq_true (log_le h'), rfl⟩
  | .str x, h => by
    refine ⟨StrLaws.reprText_len x fun c hc => ?_, rfl, rfl⟩
    have h' : (x.cps.toList.all fun c => decide (c < 4294967296)) = true := h
    have := of_decide_eq_true (List.all_eq_true.mp h' c hc)
    have e : (16 : Nat) ^ 8 = 4294967296 := by decide
    omega
  | .list xs, h => by
    have ih := shownAll_le xs h
    refine ⟨?_, by rw [PyData.showable]; exact ih.2.1, by rw [PyData.hasDict]; exact ih.2.2⟩
    rw [PyData.shown, wD]
    have := listText_le (PyData.shownAll xs)
    omega
  | .tuple xs, h => by
    have ih := shownAll_le xs h
    refine ⟨?_, by rw [PyData.showable]; exact ih.2.1, by rw [PyData.hasDict]; exact ih.2.2⟩
    rw [PyData.shown, wD]
    have := tupleText_le (PyData.shownAll xs)
    omega
  | .dict _, h => by cases h
theorem shownAll_le : ∀ ds : List PyData, okAll ds = true → piled (PyData.shownAll ds) ≤ wAll ds ∧ PyData.showableAll ds = true ∧ PyData.hasDictAll ds = false
  | [], _ => ⟨by rw [PyData.shownAll]; exact Nat.le_refl _, rfl, rfl⟩
  | d :: ds, h => by
    have h' : (okD d && okAll ds) = true := by rw [okAll] at h; exact h
    rw [Bool.and_eq_true] at h'
    have i1 := shown_le d h'.1
    have i2 := shownAll_le ds h'.2
    refine ⟨?_, by rw [PyData.showableAll, i1.2.1, i2.2.1]; rfl, by rw [PyData.hasDictAll, i1.2.2, i2.2.2]; rfl⟩
    rw [PyData.shownAll, wAll]
    have e2 : piled (d.shown :: PyData.shownAll ds) = d.shown.length + 2 + piled (PyData.shownAll ds) := by unfold piled; rw [List.map_cons, List.sum_cons]
    omega
end
mutual
theorem dle_depth : ∀ (d : PyData) (n : Nat), DLe n d → d.depth ≤ n
  | .none, _, _ => by rw [PyData.depth]; omega
  | .bool _, _, _ => by rw [PyData.depth]; omega
  | .int _, _, _ => by rw [PyData.depth]; omega
  | .str _, _, _ => by rw [PyData.depth]; omega
  | .list xs, 0, h => (by simp [DLe] at h)
  | .list xs, n + 1, h => by
    have h' : xs.length ≤ 100000 ∧ ∀ d ∈ xs, DLe n d := by simpa [DLe] using h
    rw [PyData.depth]
    have := dle_depthAll xs n h'.2
    omega
  | .tuple xs, 0, h => (by simp [DLe] at h)
  | .tuple xs, n + 1, h => by
    have h' : xs.length ≤ 100000 ∧ ∀ d ∈ xs, DLe n d := by simpa [DLe] using h
    rw [PyData.depth]
    have := dle_depthAll xs n h'.2
    omega
  | .dict _, n, h => by cases n <;> simp [DLe] at h
theorem dle_depthAll : ∀ (ds : List PyData) (n : Nat), (∀ d ∈ ds, DLe n d) → PyData.depthAll ds ≤ n
  | [], _, _ => by rw [PyData.depthAll]; omega
  | d :: ds, n, h => by
    rw [PyData.depthAll]
    have h1 := dle_depth d n (h d (List.mem_cons_self ..))
    have h2 := dle_depthAll ds n fun e he => h e (List.mem_cons_of_mem _ he)
    omega
end
def rRepr (K : PySem.W.Frag) : List V → Hp → VK → Prop := fun xs H Q => ∃ (x : V) (d : PyData) (n : Nat), xs = [x] ∧ Dp K H x d ∧ okD d = true ∧ DLe n d ∧ n ≤ 40 ∧ wD d ≤ 10000000 ∧ Q (.str d.shown) H
theorem call_repr {X : Cx} (hg : X.A.guards = some []) (hu : X.A.units + 64 < cLine) : CallR X (.builtin "repr") (rRepr X.K) := by
  intro pins s σ H xs us Q I r h
  obtain ⟨x, d, n, rfl, hd, ok, hn, hn2, hw, q⟩ := h
  obtain ⟨u, rfl, ru⟩ := vals1 r
  obtain ⟨hl, hs, hnd⟩ := shown_le d ok
  have hsz : d.shown.length ≤ sizeLine := by rw [sizeLine_eq]; omega
  obtain ⟨as, rd⟩ := Dp.reads I d x u hd ru
  have hdep := dle_depth d n hn
  cases hd with
  | non =>
    cases ru
    exact P.repr_of_none ⟨.str _, H, I.tok _, ⟨_, rfl⟩, q⟩
  | bl b =>
    cases ru
    exact P.repr_of_bool ⟨.str _, H, I.tok _, ⟨_, rfl⟩, q⟩
  | int i =>
    obtain ⟨t, rfl⟩ := ru
    have h' : i.natAbs < 2 ^ 1000 := of_decide_eq_true (show decide _ = true from ok)
    exact P.repr_of_int (log_le h') ⟨.str _, H, I.tok _, ⟨_, rfl⟩, q⟩
  | str y =>
    obtain ⟨t, rfl⟩ := ru
    exact P.repr_of_str ⟨.str _, H, I.tok _, ⟨_, rfl⟩, q⟩ hsz
  | lst _ _ =>
    cases ru
    exact repr_of_reads' rd hs (PyData.noDict_hsm hnd) hg (by omega) (fun _ _ e => e) (fun h' tu tk hk => ⟨.str _, H, I.kept hk, ⟨_, rfl⟩, q⟩) hsz
  | tup _ _ =>
    cases ru
    exact repr_of_reads' rd hs (PyData.noDict_hsm hnd) hg (by omega) (fun _ _ e => e) (fun h' tu tk hk => ⟨.str _, H, I.kept hk, ⟨_, rfl⟩, q⟩) hsz
end Fld
/-! Errors of the program: a base of its own over ValueError, whose __init__ is called by name out of the __init__ of its heirs. -/
namespace Fld
open PySem PySem.Spec PyProof.Rows L2
section
variable {X : Cx} {e : Expr} {es : List Expr} {ta : TA} {x : Str} {FE : Addr} {mc : Value} {p1 p2 pos : Pos}
/-- what the written part says of the base -/
structure BaseC (K : PySem.W.Frag) (mg : Str → Option Value) (x : Str) (FE : Addr) (mc : Value) : Prop where
  g : mg x = some (.ref FE)
  rd : ClX.CRead K FE mc
  ini : PySem.W.findCls K (.ref FE) mc "__init__" = some (.val (.builtin "ValueError.__init__"))
theorem pe_feinit {pl : Sem Bool} (B : BaseC X.K X.mg x FE mc) (hg : Gl X x) (ha : PA X (e :: es) ta) (hdb : (x == ("__debug__" : Str)) = false := by decide)
    (hc : eval (.Call (.Attribute (.Name x p1) "__init__" p2) (e :: es) [] pos) X.env = (do
      let ov ← eval (.Name x p1) X.env
      standAt p2.atName
      let (f, first) ← holding [ov] (getMethod ov "__init__" pl)
      callWith pos f first (backTo pos (starEach (e :: es) X.env)) (backToKw pos (keywordEach [] X.env))) := by rfl)
    (he : starEach (e :: es) X.env = (false, eval e X.env) :: starEach es X.env := by rfl) (hpl : (backTo pos (starEach es X.env)).any (·.1) = false := by rfl) :
    PE X (.Call (.Attribute (.Name x p1) "__init__" p2) (e :: es) [] pos) (tVeI X.K ta) := by
  refine ⟨?_⟩
  intro pins s σ H Q I h
  refine PySem.W.methodCall_KW (ld_glob I hg B.g ?_ hdb) hc
  refine PySem.W.method_cls I.kIn B.rd.ga (PySem.W.cls_value I.kIn B.rd.rd B.ini rfl ?_)
  show wpAny _ _ (callWith pos (Value.builtin "ValueError.__init__") [] (backTo pos (starEach (e :: es) X.env)) []) _ _ _
  refine PyProof.Rows.callWith_method1 (thn (ha.run pos pins _ σ H _ (I.tok _) h) ?_) he hpl
  rintro us s1 ⟨vs, H1, I1, r1, a, C, ws, rfl, hl, TC, ea, q⟩
  cases r1 with
  | cons ra rw' =>
    cases (show _ = Value.ref a from ra)
    exact oinit_ok TC I1 ea (by rw [← Paired.length rw', sizeLine_eq]; omega) fun s' J => ⟨.non, H1, J, rfl, q⟩
end
/-- __init__ of an heir: its one argument is kept as the attribute f -/
def sp_err (C : Addr) (f : Str) : Sp := fun vs H Q _ => ∃ (a : Addr) (k : Int), vs = [.ref a, .int k] ∧ k.natAbs < 2 ^ 1000 ∧ H a = some (exo a C none) ∧
  ∀ dx, H dx = none → dx ≠ a → Q .non (upd (upd H dx (exd dx [(f, .int k)])) a (exo a C (some dx)))
/-- what the written part says of an heir at C, its __init__ at fI -/
structure ErrC (K : PySem.W.Frag) (mg : Str → Option Value) (x f : Str) (C fI : Addr) : Prop where
  ox : OexC K C
  g : mg x = some (.ref C)
  iC : PySem.W.findIn K (.ref C) "__init__" = some (some (.ref fI))
  tI : PySem.W.typeIn K (.ref fI) = some (.type "function")
  no : PySem.W.findIn K (.ref C) f = some none
/-- raise C(e): what its reading asks behind the argument -/
def tRaiseE (C : Addr) (f : Str) (W : WX) (ta : TA) : TS := fun _ σ H => tMkO C (sp_err C f) [] ta σ H fun cls d H' => W cls d σ H'
theorem ps_raiseE {X : Cx} {CX : CXT} {x f : Str} {C fI : Addr} {k : Nat} {fd : FuncData} {e : Expr} {ta : TA} {W : WX} {p pos pos2 : Pos} (hcalm : X.calm = true) (T : ErrC X.K X.mg x f C fI) (F1 : FnOk X.prog X.w X.K X.mg X.base CX k fI fd ["self", f] (sp_err C f)) (hr : Room (k + 1) X.A) (hb : Binds X.K fd ["self", f] [])
    (hx : Passes CX X (fun _ _ _ => False)) (tk : Takes X W) (hg : Gl X x) (ha : PA X [e] ta)
    (hdb : (x == ("__debug__" : Str)) = false := by decide) (he : starEach (e :: []) X.env = (false, eval e X.env) :: starEach [] X.env := by rfl) (hpl : (backTo pos (starEach [] X.env)).any (·.1) = false := by rfl) :
    PS X (.Raise (some (.Call (.Name x p) [e] [] pos)) none pos2) (tRaiseE C f W ta) :=
  ps_raise (pos := pos2) hcalm tk (pmk_oex (pos := pos) (p := p) T.ox T.iC T.tI F1 hr hb .nil hx hg T.g ha hdb he hpl)
/-- the error's own dict, new, holds the number; all that stood stands -/
theorem err_go {C : Addr} {f : Str} {k : Int} {H1 : Hp} {Q : Value → Option Addr → Hp → Prop} (hk : k.natAbs < 2 ^ 1000) (q : ∀ (d : Addr) H', Same H1 H' → H1 d = none → H' d = some (.xd [(f, .int k)]) → Q (.ref C) (some d) H') :
    ([V.int k] : List V).length ≤ 1000 ∧ ∀ a, H1 a = none → sp_err C f (.ref a :: ([.int k] ++ [])) (upd H1 a (exo a C none)) (fun v H2 => v = .non ∧ ∃ (d : Addr) (fs : List (Str × V)), H2 a = some (exo a C (some d)) ∧ H2 d = some (exd d fs) ∧ H1 d = none ∧ Q (.ref C) (some d) (upd (del H2 a) d (.xd fs))) (fun _ _ _ => False) := by
  refine ⟨by show 1 ≤ 1000; decide, fun a hna => ⟨a, k, rfl, hk, upd_same, fun dx hdx hda => ⟨rfl, dx, [(f, .int k)], upd_same, ?_, ?_, ?_⟩⟩⟩
  · rw [upd_ne hda, upd_same]
  · rw [upd_ne hda] at hdx; exact hdx
  · have hdx' : H1 dx = none := by rw [upd_ne hda] at hdx; exact hdx
    refine q dx _ (fun b o hb => ?_) hdx' upd_same
    have n1 : b ≠ dx := ne_of_none hb hdx'
    have n2 : b ≠ a := ne_of_none hb hna
    rw [upd_ne n1, del_ne n2, upd_ne n2, upd_ne n1, upd_ne n2]
    exact hb
/-- a plain heir: no __init__ of its own -/
structure PlainC (K : PySem.W.Frag) (mg : Str → Option Value) (x : Str) (C : Addr) (bm : List Value) : Prop where
  g : mg x = some (.ref C)
  x_ : PySem.W.excIn K C bm "ValueError.__new__" = true
  k_ : PySem.W.keepIn K (.ref C) = true
  b_ : PySem.W.subIn K (.ref C) (.type "BaseException") = some true
  t_ : PySem.W.typeIn K (.ref C) = some (.type "type")
/-- what an except clause asks of a base of the program's own -/
structure RootC (K : PySem.W.Frag) (C : Addr) : Prop where
  b_ : PySem.W.subIn K (.ref C) (.type "BaseException") = some true
  t_ : PySem.W.typeIn K (.ref C) = some (.type "type")
  d_ : PySem.W.hasDictIn K C = true
structure HeirC (K : PySem.W.Frag) (C FE : Addr) : Prop where
  b_ : PySem.W.subIn K (.ref C) (.type "BaseException") = some true
  t_ : PySem.W.typeIn K (.ref C) = some (.type "type")
  u_ : PySem.W.subIn K (.ref C) (.ref FE) = some true
theorem RootC.exm {K : PySem.W.Frag} {C FE : Addr} (r : RootC K FE) (h : HeirC K C FE) : PySem.W.exmOne K (.ref C) (.ref FE) = some true := PySem.W.exm_ref r.b_ r.d_ r.t_ h.u_
/-- text += text on a local -/
def ipT : TIp := fun x y H Q => ∃ i j, x = .str i ∧ y = .str j ∧ i.length + j.length ≤ sizeLine ∧ Q (.str (i ++ j)) H
theorem ip_addT {X : Cx} : PIp X .Add ipT := fun pins s σ H x y u v Q I rx ry h => iop_add_str pins s σ H x y u v Q I rx ry h
end Fld
/-! The reader of octets: its state, what its calls return or raise, by a mirror over the list of octets. -/
namespace Fld
open PySem PySem.Spec PyProof.Rows L2
/-- the reader at r, over the octets os at a, stands at place k -/
structure Rd (K : PySem.W.Frag) (C : Addr) (H : Hp) (r a : Addr) (os : List Int) (k : Nat) : Prop where
  ex : ∃ dx, H r = some (.ins C dx [("octets", .ref a), ("place", .int (k : Nat))])
  sq : SqL K H a (os.map V.int)
  ne : a ≠ r
  lt : ∀ o ∈ os, 0 ≤ o ∧ o < 256
  len : os.length ≤ 1000000
  le : k ≤ os.length
theorem Rd.keep {K : PySem.W.Frag} {C r a : Addr} {H H' : Hp} {os : List Int} {k : Nat} (h : Rd K C H r a os k) (s : Same H H') : Rd K C H' r a os k := by
  obtain ⟨dx, e⟩ := h.ex
  exact ⟨⟨dx, s _ _ e⟩, s.seq h.sq, h.ne, h.lt, h.len, h.le⟩
theorem Rd.get {K : PySem.W.Frag} {C r a : Addr} {H : Hp} {os : List Int} {k : Nat} (h : Rd K C H r a os k) {o : Int} (e : os[k]? = some o) : 0 ≤ o ∧ o < 256 := h.lt o (List.mem_of_getElem? e)
theorem Rd.end_ {K : PySem.W.Frag} {C r a : Addr} {H : Hp} {os : List Int} {k : Nat} (h : Rd K C H r a os k) (e : os[k]? = none) : k = os.length := by
  have := List.getElem?_eq_none_iff.mp e
  have := h.le
  omega
/-- an error with the place e -/
def RdErr (N r : Addr) (H : Hp) (E : XK) (e : Nat) : Prop := ∀ (d : Addr) H', But r H H' → H' d = some (.xd [("place", .int (e : Nat))]) → E (.ref N) (some d) H'
theorem RdErr.pre {N r : Addr} {H H1 : Hp} {E : XK} {e : Nat} (b : But r H H1) (h : RdErr N r H E e) : RdErr N r H1 E e := fun d H' b2 hd => h d H' (b.trans b2) hd
/-- a call: a value, the place moved; or the error -/
def RdRes {α : Type} (K : PySem.W.Frag) (C N r a : Addr) (os : List Int) (H : Hp) (Q : VK) (E : XK) (R : α → V → Hp → Prop) : Except Nat (α × Nat) → Prop
  | .ok (x, k') => ∀ v H', But r H H' → Rd K C H' r a os k' → R x v H' → Q v H'
  | .error e => RdErr N r H E e
theorem lenL {K : PySem.W.Frag} {H : Hp} {a : Addr} {xs : List V} (h : SqL K H a xs) : LenV K (.ref a) H xs.length := .inl ⟨xs, h, rfl⟩
theorem small_int {K : PySem.W.Frag} {C r a : Addr} {H : Hp} {os : List Int} {k : Nat} (h : Rd K C H r a os k) : ((k : Nat) : Int).natAbs < 2 ^ 1000 := by
  have h1 := h.le
  have h2 := h.len
  have h3 : (1000001 : Nat) < 2 ^ 1000 := by decide +kernel
  rw [Int.natAbs_natCast]
  omega
/-! ### mirrors -/
def takeRest (most : Int) : List Int → Nat → Int → Int → Except Nat (Int × Nat)
  | [], k, _, _ => .error k
  | o :: l, k, r, w =>
    if 128 ≤ o then (if r + (o - 128) * w + w * 128 ≤ most then takeRest most l (k + 1) (r + (o - 128) * w) (w * 128) else .error k)
    else if r + o * w ≤ most ∧ (0 < o ∨ w = 1) then .ok (r + o * w, k + 1) else .error k
def takeNum (os : List Int) (b m : Nat) (least most : Int) (k : Nat) : Except Nat (Int × Nat) :=
  match os[k]? with
  | none => .error k
  | some o => if least ≤ o - m ∧ o - m ≤ min ((2 ^ b - 1 : Nat) : Int) most then
      (if o - m < ((2 ^ b - 1 : Nat) : Int) then .ok (o - m, k + 1)
       else (takeRest (most - ((2 ^ b - 1 : Nat) : Int)) (os.drop (k + 1)) (k + 1) 0 1).map fun z => (((2 ^ b - 1 : Nat) : Int) + z.1, z.2))
    else .error k
def takeChars : Nat → List Int → Nat → Except Nat (List Nat × Nat)
  | 0, _, k => .ok ([], k)
  | _ + 1, [], k => .error k
  | n + 1, o :: l, k => if isChar o.toNat then (takeChars n l (k + 1)).map fun z => (o.toNat :: z.1, z.2) else .error k
def takeStr (os : List Int) (b m : Nat) (least most : Int) (k : Nat) : Except Nat (Str × Nat) :=
  match takeNum os b m least most k with
  | .error e => .error e
  | .ok (n, k1) => (takeChars n.toNat (os.drop k1) k1).map fun z => (⟨z.1.toArray⟩, z.2)
theorem takeRest_bound (most : Int) : ∀ (l : List Int) (k : Nat) (r w : Int) (n : Int) (k1 : Nat), 0 ≤ r → 0 ≤ w → (∀ o ∈ l, 0 ≤ o) → takeRest most l k r w = .ok (n, k1) → 0 ≤ n ∧ n ≤ most
  | [], k, r, w, n, k1, _, _, _, h => by rw [takeRest] at h; cases h
  | o :: l, k, r, w, n, k1, hr, hw, ho, h => by
    have ho1 := ho o (List.mem_cons_self ..)
    have hm := Int.mul_nonneg ho1 hw
    rw [takeRest] at h
    by_cases h1 : 128 ≤ o
    · rw [if_pos h1] at h
      by_cases h2 : r + (o - 128) * w + w * 128 ≤ most
      · rw [if_pos h2] at h
        have := Int.mul_nonneg (show 0 ≤ o - 128 by omega) hw
        exact takeRest_bound most l _ _ _ n k1 (by omega) (by omega) (fun x hx => ho x (List.mem_cons_of_mem _ hx)) h
      · rw [if_neg h2] at h; cases h
    · rw [if_neg h1] at h
      by_cases h2 : r + o * w ≤ most ∧ (0 < o ∨ w = 1)
      · rw [if_pos h2] at h
        cases h
        exact ⟨by omega, h2.1⟩
      · rw [if_neg h2] at h; cases h
theorem takeNum_bound (os : List Int) (b m : Nat) (least most : Int) (k : Nat) (hos : ∀ o ∈ os, 0 ≤ o) : ∀ n k1, takeNum os b m least most k = .ok (n, k1) → least ≤ n ∧ n ≤ most := by
  intro n k1 h
  rw [takeNum] at h
  cases ho : os[k]? with
  | none => rw [ho] at h; cases h
  | some o =>
    rw [ho] at h
    dsimp only at h
    have hp0 := pow_pos2 b
    by_cases h1 : least ≤ o - (m : Int) ∧ o - (m : Int) ≤ min ((2 ^ b - 1 : Nat) : Int) most
    · rw [if_pos h1] at h
      by_cases h2 : o - (m : Int) < ((2 ^ b - 1 : Nat) : Int)
      · rw [if_pos h2] at h
        cases h
        omega
      · rw [if_neg h2] at h
        cases ht : takeRest (most - ((2 ^ b - 1 : Nat) : Int)) (os.drop (k + 1)) (k + 1) 0 1 with
        | error z => rw [ht] at h; cases h
        | ok z =>
          rw [ht] at h
          cases h
          have := takeRest_bound _ _ _ _ _ z.1 z.2 (by decide) (by decide) (fun x hx => hos x (List.mem_of_mem_drop hx)) ht
          omega
    · rw [if_neg h1] at h; cases h
def rInt : Int → V → Hp → Prop := fun z v _ => v = .int z
def rStr : Str → V → Hp → Prop := fun x v _ => v = .str x
/-! ### what is promised -/
def sp_Reader_init (K : PySem.W.Frag) : Sp := fun vs H Q _ => ∃ (r a C dx : Addr), vs = [.ref r, .ref a] ∧ H r = some (.ins C dx []) ∧ Cls K C ∧ NoAttr K C "octets" ∧ NoAttr K C "place" ∧
  ∀ H', (∀ b, b ≠ r → H' b = H b) → H' r = some (.ins C dx [("octets", .ref a), ("place", .int 0)]) → Q .non H'
def sp_Reader_at_end (K : PySem.W.Frag) (C : Addr) : Sp := fun vs H Q _ => ∃ (r a : Addr) (os : List Int) (k : Nat), vs = [.ref r] ∧ Rd K C H r a os k ∧ Q (.bl (decide (k = os.length))) H
def sp_Reader_look (K : PySem.W.Frag) (C N : Addr) : Sp := fun vs H Q E => ∃ (r a : Addr) (os : List Int) (k : Nat), vs = [.ref r] ∧ Rd K C H r a os k ∧ (os[k]? = none → RdErr N r H E k) ∧ ∀ o, os[k]? = some o → Q (.int o) H
def sp_Reader_accept (K : PySem.W.Frag) (C N : Addr) : Sp := fun vs H Q E => ∃ (r a : Addr) (os : List Int) (k : Nat) (b : Bool), vs = [.ref r, .bl b] ∧ Rd K C H r a os k ∧ k < os.length ∧ (b = false → RdErr N r H E k) ∧
  (b = true → ∀ H', But r H H' → Rd K C H' r a os (k + 1) → Q .non H')
theorem acc_of {K : PySem.W.Frag} {C N r a : Addr} {os : List Int} {k : Nat} {H : Hp} {Q' : VK} {E : XK} {bb : Bool} {p : Prop} [Decidable p] (R : Rd K C H r a os k) (hlt : k < os.length) (hb : bb = decide p) (h1 : ¬ p → RdErr N r H E k)
    (h2 : p → ∀ H1, But r H H1 → Rd K C H1 r a os (k + 1) → Q' .non H1) : sp_Reader_accept K C N [.ref r, .bl bb] H Q' E :=
  ⟨r, a, os, k, bb, rfl, R, hlt, fun e => h1 (of_decide_eq_false (hb.symm.trans e)), fun e => h2 (of_decide_eq_true (hb.symm.trans e))⟩
theorem RdRes.pre {α : Type} {K : PySem.W.Frag} {C N r a : Addr} {os : List Int} {H H1 : Hp} {Q : VK} {E : XK} {R : α → V → Hp → Prop} {x : Except Nat (α × Nat)} (b : But r H H1) (h : RdRes K C N r a os H Q E R x) : RdRes K C N r a os H1 Q E R x := by
  cases x with
  | error e => exact RdErr.pre b h
  | ok z => exact fun v H' b2 R2 hv => h v H' (b.trans b2) R2 hv
def sp_Reader_finish (K : PySem.W.Frag) (C N : Addr) : Sp := fun vs H Q E => ∃ (r a : Addr) (os : List Int) (k : Nat), vs = [.ref r] ∧ Rd K C H r a os k ∧ (k ≠ os.length → RdErr N r H E k) ∧ (k = os.length → Q .non H)
def sp_Reader_take_rest (K : PySem.W.Frag) (C N : Addr) : Sp := fun vs H Q E => ∃ (r a : Addr) (os : List Int) (k : Nat) (most : Int), vs = [.ref r, .int most] ∧ Rd K C H r a os k ∧ most ≤ 1000000 ∧ RdRes K C N r a os H Q E rInt (takeRest most (os.drop k) k 0 1)
def sp_Reader_take_number (K : PySem.W.Frag) (C N : Addr) : Sp := fun vs H Q E => ∃ (r a : Addr) (os : List Int) (k b m : Nat) (least most : Int), vs = [.ref r, .int (b : Nat), .int (m : Nat), .int least, .int most] ∧ Rd K C H r a os k ∧ b ≤ 8 ∧ most ≤ 1000000 ∧
  RdRes K C N r a os H Q E rInt (takeNum os b m least most k)
def sp_Reader_take_string (K : PySem.W.Frag) (C N : Addr) : Sp := fun vs H Q E => ∃ (r a : Addr) (os : List Int) (k b m : Nat) (least most : Int), vs = [.ref r, .int (b : Nat), .int (m : Nat), .int least, .int most] ∧ Rd K C H r a os k ∧ b ≤ 8 ∧ 0 ≤ least ∧ most ≤ 10000 ∧
  RdRes K C N r a os H Q E rStr (takeStr os b m least most k)
def sp_Reader_take_name (K : PySem.W.Frag) (C N : Addr) : Sp := fun vs H Q E => ∃ (r a : Addr) (os : List Int) (k b m : Nat), vs = [.ref r, .int (b : Nat), .int (m : Nat)] ∧ Rd K C H r a os k ∧ b ≤ 8 ∧ RdRes K C N r a os H Q E rStr (takeStr os b m 1 20 k)
def sp_Reader_take_value (K : PySem.W.Frag) (C N : Addr) : Sp := fun vs H Q E => ∃ (r a : Addr) (os : List Int) (k : Nat), vs = [.ref r] ∧ Rd K C H r a os k ∧ RdRes K C N r a os H Q E rStr (takeStr os 7 0 0 40 k)
end Fld
/-! Instructions and answers: their values, their octets, what is read of octets. -/
namespace Fld
open PySem PySem.Spec PyProof.Rows L2
def sp_is_stream (K : PySem.W.Frag) : Sp := fun vs H Q _ => ∃ (v : V) (t : String), vs = [v] ∧ Kind K H v t ∧ Q (.bl (btw v 0 20)) H
def sp_is_name (K : PySem.W.Frag) : Sp := fun vs H Q _ => ∃ (v : V) (t : String), vs = [v] ∧ Kind K H v t ∧ (∀ x, v = .str x → x.length ≤ 100000) ∧ ∀ H', Same H H' → Q (.bl (txt v 1 20)) H'
/-- a list of any values of a kind, or a value of another kind: what comes for each -/
def AnyL (K : PySem.W.Frag) (H : Hp) (v : V) (Y : List V → Prop) (N : Prop) : Prop :=
  (∃ a xs, v = .ref a ∧ SqL K H a xs ∧ xs.length ≤ 1000000 ∧ (∀ x ∈ xs, ∃ t, Kind K H x t) ∧ Y xs) ∨ ∃ t, Kind K H v t ∧ (t == "list") = false ∧ N
/-- .. the list one of the heap -/
def AnyH (K : PySem.W.Frag) (H : Hp) (v : V) (Y : List V → Prop) (N : Prop) : Prop :=
  (∃ a xs, v = .ref a ∧ H a = some (.lst xs) ∧ xs.length ≤ 1000000 ∧ (∀ x ∈ xs, ∃ t, Kind K H x t) ∧ Y xs) ∨ ∃ t, Kind K H v t ∧ (t == "list") = false ∧ N
def octV (xs : List V) : Bool := xs.all fun x => btw x 0 255
def sp_are_octets (K : PySem.W.Frag) : Sp := fun vs H Q _ => ∃ v, vs = [v] ∧ AnyL K H v (fun xs => ∀ H', Same H H' → Q (.bl (octV xs)) H') (∀ H', Same H H' → Q (.bl false) H')
def sp_check_octets (K : PySem.W.Frag) (N : Addr) : Sp := fun vs H Q E => ∃ v, vs = [v] ∧ AnyL K H v (fun xs => ∀ H', Same H H' → if octV xs = true then Q .non H' else E (.ref N) none H') (∀ H', Same H H' → E (.ref N) none H')
def strOct (x : Str) (b m : Nat) : List Int := numOct x.length b m ++ x.cps.toList.map fun (c : Nat) => (c : Int)
def sp_value_octets : Sp := fun vs H Q _ => ∃ (x : Str), vs = [.str x] ∧ txt (.str x) 0 40 = true ∧ RetInts (strOct x 7 0) H Q
inductive Ins where
  | again (n : Nat) | limit (n : Nat) | fixed (n : Nat) (x : Str) | entry (n : Nat) (x : Str) | new (y x : Str)
def Ins.vs : Ins → List V
  | .again n => [.str "again", .int n]
  | .limit n => [.str "limit", .int n]
  | .fixed n x => [.str "fixed", .int n, .str x]
  | .entry n x => [.str "entry", .int n, .str x]
  | .new y x => [.str "new", .str y, .str x]
def Ins.Ok : Ins → Prop
  | .again n => n ≤ 9999
  | .limit n => n ≤ 9999
  | .fixed n x => n ≤ 9999 ∧ txt (.str x) 0 40 = true
  | .entry n x => n ≤ 9999 ∧ txt (.str x) 0 40 = true
  | .new y x => txt (.str y) 1 20 = true ∧ txt (.str x) 0 40 = true
def Ins.oct : Ins → List Int
  | .again n => numOct n 5 0
  | .limit n => numOct n 5 32
  | .fixed n x => numOct n 6 192 ++ strOct x 7 0
  | .entry n x => numOct n 6 128 ++ strOct x 7 0
  | .new y x => strOct y 5 64 ++ strOct x 7 0
/-- the value v is the instruction i -/
def InsV (K : PySem.W.Frag) (H : Hp) (v : V) (i : Ins) : Prop := ∃ a, v = .ref a ∧ SqT K H a i.vs
inductive Ans where
  | done (n : Nat) | cancelled (n : Nat) | received (n : Nat)
def Ans.vs : Ans → List V
  | .done n => [.str "done", .int n]
  | .cancelled n => [.str "cancelled", .int n]
  | .received n => [.str "received", .int n]
def Ans.Ok : Ans → Prop
  | .done n => n ≤ 20
  | .cancelled n => n ≤ 20
  | .received n => 1 ≤ n ∧ n ≤ 9999
def Ans.oct : Ans → List Int
  | .done n => numOct n 7 128
  | .cancelled n => numOct n 6 64
  | .received n => numOct n 6 0
def AnsV (K : PySem.W.Frag) (H : Hp) (v : V) (i : Ans) : Prop := ∃ a, v = .ref a ∧ SqT K H a i.vs
/-! ### reading -/
def takeSrc (os : List Int) (k : Nat) : Except Nat ((Str ⊕ Bool × Nat) × Nat) :=
  match os[k]? with
  | none => .error k
  | some o => if 192 ≤ o then (takeNum os 6 192 0 9999 k).map fun z => (.inr (true, z.1.toNat), z.2)
    else if 128 ≤ o then (takeNum os 6 128 0 9999 k).map fun z => (.inr (false, z.1.toNat), z.2)
    else (takeStr os 5 64 1 20 k).map fun z => (.inl z.1, z.2)
def srcIns (x : Str) : Str ⊕ Bool × Nat → Ins
  | .inl y => .new y x
  | .inr (true, n) => .fixed n x
  | .inr (false, n) => .entry n x
def takeIns (os : List Int) (k : Nat) : Except Nat (Ins × Nat) :=
  match os[k]? with
  | none => .error k
  | some o => if o < 32 then (takeNum os 5 0 0 9999 k).map fun z => (.again z.1.toNat, z.2)
    else if o < 64 then (takeNum os 5 32 0 9999 k).map fun z => (.limit z.1.toNat, z.2)
    else match takeSrc os k with
      | .error e => .error e
      | .ok (s, k1) => (takeStr os 7 0 0 40 k1).map fun z => (srcIns z.1 s, z.2)
def takeAns (os : List Int) (k : Nat) : Except Nat (Ans × Nat) :=
  match os[k]? with
  | none => .error k
  | some o => if 128 ≤ o then (takeNum os 7 128 0 20 k).map fun z => (.done z.1.toNat, z.2)
    else if 64 ≤ o then (takeNum os 6 64 0 20 k).map fun z => (.cancelled z.1.toNat, z.2)
    else (takeNum os 6 0 1 9999 k).map fun z => (.received z.1.toNat, z.2)
/-- read to the end -/
def whole {α : Type} (os : List Int) (f : List Int → Nat → Except Nat (α × Nat)) : Except Nat α :=
  match f os 0 with
  | .error e => .error e
  | .ok (x, k) => if k = os.length then .ok x else .error k
def srcVs : Str ⊕ Bool × Nat → List V
  | .inl y => [.str "new", .str y]
  | .inr (true, n) => [.str "fixed", .int n]
  | .inr (false, n) => [.str "entry", .int n]
def rSrc (K : PySem.W.Frag) : Str ⊕ Bool × Nat → V → Hp → Prop := fun s v H => ∃ a, v = .ref a ∧ SqT K H a (srcVs s)
def rIns (K : PySem.W.Frag) : Ins → V → Hp → Prop := fun i v H => InsV K H v i
def rAns (K : PySem.W.Frag) : Ans → V → Hp → Prop := fun i v H => AnsV K H v i
def sp_take (K : PySem.W.Frag) (C N : Addr) {α : Type} (f : List Int → Nat → Except Nat (α × Nat)) (R : α → V → Hp → Prop) : Sp := fun vs H Q E => ∃ (r a : Addr) (os : List Int) (k : Nat), vs = [.ref r] ∧ Rd K C H r a os k ∧ RdRes K C N r a os H Q E R (f os k)
def RdEnd {α : Type} (N : Addr) (H : Hp) (Q : VK) (E : XK) (R : α → V → Hp → Prop) : Except Nat α → Prop
  | .ok x => ∀ v H', Same H H' → R x v H' → Q v H'
  | .error e => ∀ (d : Addr) H', Same H H' → H' d = some (.xd [("place", .int (e : Nat))]) → E (.ref N) (some d) H'
def sp_read (K : PySem.W.Frag) (N M : Addr) {α : Type} (f : List Int → Nat → Except Nat (α × Nat)) (R : α → V → Hp → Prop) : Sp := fun vs H Q E => ∃ v, vs = [v] ∧ AnyH K H v
  (fun xs => if octV xs = true then ∃ os : List Int, xs = os.map V.int ∧ RdEnd N H Q E R (whole os f)
   else ∀ H', Same H H' → E (.ref M) none H') (∀ H', Same H H' → E (.ref M) none H')
def sp_is_ins (K : PySem.W.Frag) : Sp := fun vs H Q _ => ∃ (v : V) (i : Ins), vs = [v] ∧ InsV K H v i ∧ i.Ok ∧ ∀ H', Same H H' → Q (.bl true) H'
def sp_write_ins (K : PySem.W.Frag) : Sp := fun vs H Q _ => ∃ (v : V) (i : Ins), vs = [v] ∧ InsV K H v i ∧ i.Ok ∧ RetInts i.oct H Q
def sp_law_ins (K : PySem.W.Frag) : Sp := sp_write_ins K
def sp_is_ans (K : PySem.W.Frag) : Sp := fun vs H Q _ => ∃ (v : V) (i : Ans), vs = [v] ∧ AnsV K H v i ∧ i.Ok ∧ ∀ H', Same H H' → Q (.bl true) H'
def sp_write_ans (K : PySem.W.Frag) : Sp := fun vs H Q _ => ∃ (v : V) (i : Ans), vs = [v] ∧ AnsV K H v i ∧ i.Ok ∧ RetInts i.oct H Q
theorem txt_len20 {x : Str} (h : txt (.str x) 1 20 = true) : 1 ≤ x.length ∧ x.length ≤ 20 := by
  have h' : (decide ((1 : Int) ≤ x.length) && decide ((x.length : Int) ≤ 20) && x.cps.toList.all isChar) = true := h
  rw [Bool.and_eq_true, Bool.and_eq_true] at h'
  have h1 := of_decide_eq_true h'.1.1
  have h2 := of_decide_eq_true h'.1.2
  omega
theorem txt_20 {x : Str} (h : txt (.str x) 1 20 = true) : txt (.str x) 0 40 = true := by
  have := txt_len20 h
  exact txt_of (by omega) (by omega) (txt_all h)
def sp_source_octets : Sp := fun vs H Q _ => ∃ (c : Str) (v : V) (os : List Int), vs = [.str c, v] ∧
  ((∃ n : Nat, c = "fixed" ∧ v = .int n ∧ n ≤ 9999 ∧ os = numOct n 6 192) ∨ (∃ n : Nat, c = "entry" ∧ v = .int n ∧ n ≤ 9999 ∧ os = numOct n 6 128) ∨ ∃ y : Str, c = "new" ∧ v = .str y ∧ txt (.str y) 1 20 = true ∧ os = strOct y 5 64) ∧ RetInts os H Q
theorem RetInts.pre {ns : List Int} {H H1 : Hp} {Q : VK} (s : Same H H1) (h : RetInts ns H Q) : RetInts ns H1 Q := fun p H' hp s2 e => h p H' (s.free hp) (s.trans s2) e
theorem cat_go {a b : List Int} {H H3 : Hp} {Q : VK} {p1 p2 : Addr} (q : RetInts (a ++ b) H Q) (s : Same H H3) (g1 : H3 p1 = some (.lst (a.map V.int))) (g2 : H3 p2 = some (.lst (b.map V.int))) (hl : a.length + b.length ≤ 1000000) : rCat (.ref p1) (.ref p2) H3 Q := by
  refine ⟨p1, p2, _, _, rfl, rfl, g1, g2, by rw [List.length_map, List.length_map, sizeLine_eq]; omega, fun r hr => ?_⟩
  refine q r _ (s.free hr) (s.put (s.free hr)) ?_
  rw [upd_same, List.map_append]
theorem mark0 {b : Nat} (h1 : 1 ≤ b) (h8 : b ≤ 8) : MarkOk b 0 := by
  refine ⟨h1, h8, by decide, ?_⟩
  have : b = 1 ∨ b = 2 ∨ b = 3 ∨ b = 4 ∨ b = 5 ∨ b = 6 ∨ b = 7 ∨ b = 8 := by omega
  rcases this with h | h | h | h | h | h | h | h <;> subst h <;> decide +kernel
theorem strOct_len {x : Str} {b m : Nat} (h : x.length ≤ 40) : (strOct x b m).length ≤ 100 := by
  unfold strOct
  have := numOct_len x.length b m
  rw [List.length_append, List.length_map, ← str_len]
  omega
/-- from a call's result to what is made of it -/
theorem res_map {α β : Type} {K : PySem.W.Frag} {C N r a : Addr} {os : List Int} {H : Hp} {Q Q' : VK} {E : XK} {Ra : α → V → Hp → Prop} {Rb : β → V → Hp → Prop} {x : Except Nat (α × Nat)} {f : α × Nat → β × Nat}
    (q : RdRes K C N r a os H Q E Rb (x.map f)) (hf : ∀ z, (f z).2 = z.2) (h : ∀ z v H1, x = .ok z → But r H H1 → Rd K C H1 r a os z.2 → Ra z.1 v H1 → (∀ v' H2, Same H1 H2 → Rb (f z).1 v' H2 → Q v' H2) → Q' v H1) : RdRes K C N r a os H Q' E Ra x := by
  cases x with
  | error e => exact q
  | ok z =>
    intro v H1 b1 R1 hv
    refine h z v H1 rfl b1 R1 hv fun v' H2 s2 hv' => q v' H2 (b1.trans (But.of s2)) ?_ hv'
    rw [hf z]
    exact R1.keep s2
theorem oct_list {xs : List V} (h : octV xs = true) : ∃ os : List Int, xs = os.map V.int ∧ ∀ o ∈ os, 0 ≤ o ∧ o < 256 := by
  induction xs with
  | nil => exact ⟨[], rfl, fun o ho => nomatch ho⟩
  | cons x xs ih =>
    have h' : (btw x 0 255 && octV xs) = true := h
    rw [Bool.and_eq_true] at h'
    obtain ⟨os, e, ho⟩ := ih h'.2
    cases x with
    | int i =>
      have h2 : (decide ((0 : Int) ≤ i) && decide (i ≤ 255)) = true := h'.1
      rw [Bool.and_eq_true] at h2
      have h3 := of_decide_eq_true h2.1
      have h4 := of_decide_eq_true h2.2
      refine ⟨i :: os, by rw [e]; rfl, fun o hm => ?_⟩
      rcases List.mem_cons.mp hm with z | z
      · subst z; omega
      · exact ho o z
    | _ => exact nomatch (show false = true from h'.1)
theorem same_but {r : Addr} {H H1 H2 : Hp} (hr : H r = none) (s : Same H H1) (b : But r H1 H2) : Same H H2 := fun c o e => b c o (ne_of_none e hr) (s c o e)
end Fld
namespace Fld
open PySem PySem.Spec PyProof.Rows L2
def sp_law_draw_ins : Sp := fun vs H Q _ => ∃ (p c : Addr) (n : Nat), vs = [.ref p] ∧ Pen H p c n ∧ n ≤ 700000 ∧ ∀ (a : Addr) (i : Ins) H', H' a = some (.tup i.vs) → i.Ok → Drew p c H H' (n + 200) → Q (.ref a) H'
def sp_law_draw_ans : Sp := fun vs H Q _ => ∃ (p c : Addr) (n : Nat), vs = [.ref p] ∧ Pen H p c n ∧ n ≤ 700000 ∧ ∀ (a : Addr) (i : Ans) H', H' a = some (.tup i.vs) → i.Ok → Drew p c H H' (n + 200) → Q (.ref a) H'
/-! ### what is written is read again -/
theorem takeRest_oct (most : Int) : ∀ (r : Nat) (l : List Int) (k : Nat) (z w : Int), 1 ≤ w → 0 ≤ z → z + (r : Int) * w ≤ most → (0 < r ∨ w = 1) → takeRest most (restOct r ++ l) k z w = .ok (z + (r : Int) * w, k + (restOct r).length) := by
  intro r
  induction r using Nat.strongRecOn with
  | _ r ih =>
    intro l k z w hw hz hm h0
    by_cases h : r < 128
    · rw [restOct_lt h]
      show takeRest most ((r : Int) :: l) k z w = _
      rw [takeRest, if_neg (by omega), if_pos ⟨hm, by omega⟩]
      rfl
    · rw [restOct_ge h]
      show takeRest most ((128 + (r : Int) % 128) :: (restOct (r / 128) ++ l)) k z w = _
      have e0 : (128 + (r : Int) % 128 - 128) * w = ((r : Int) % 128) * w := by rw [show 128 + (r : Int) % 128 - 128 = (r : Int) % 128 by omega]
      have e1 : (r : Int) = ((r : Int) % 128) + 128 * ((r / 128 : Nat) : Int) := by omega
      have e2 : (r : Int) * w = ((r : Int) % 128) * w + ((r / 128 : Nat) : Int) * (w * 128) := by
        conv => lhs; rw [e1]
        rw [Int.add_mul, Int.mul_comm 128, Int.mul_assoc, Int.mul_comm 128 w]
      have p1 : 0 ≤ ((r : Int) % 128) * w := Int.mul_nonneg (by omega) (by omega)
      have q1 : 1 ≤ r / 128 := by omega
      have p2 : (w * 128) ≤ ((r / 128 : Nat) : Int) * (w * 128) := by
        have := Int.mul_le_mul_of_nonneg_right (show (1 : Int) ≤ ((r / 128 : Nat) : Int) by omega) (show 0 ≤ w * 128 by omega)
        omega
      rw [takeRest, if_pos (by omega), if_pos (by rw [e0]; omega), e0]
      rw [ih (r / 128) (by omega) l (k + 1) _ _ (by omega) (by omega) (by omega) (.inl (by omega))]
      rw [List.length_cons]
      refine congrArg Except.ok (Prod.ext ?_ ?_)
      · show z + ((r : Int) % 128) * w + ((r / 128 : Nat) : Int) * (w * 128) = z + (r : Int) * w
        rw [e2]; omega
      · show k + 1 + (restOct (r / 128)).length = k + ((restOct (r / 128)).length + 1)
        omega
theorem takeNum_oct (n b m : Nat) (least most : Int) (pre l : List Int) (h1 : least ≤ n) (h2 : (n : Int) ≤ most) (hl : 0 ≤ least) : least ≤ min ((2 ^ b - 1 : Nat) : Int) most →
    takeNum (pre ++ (numOct n b m ++ l)) b m least most pre.length = .ok ((n : Int), pre.length + (numOct n b m).length) := by
  intro hlm
  unfold takeNum numOct
  by_cases h : n < 2 ^ b - 1
  · rw [if_pos h]
    rw [List.getElem?_append_right (Nat.le_refl _), Nat.sub_self]
    show (if _ then _ else _) = _
    have e : ((m + n : Nat) : Int) - (m : Int) = (n : Int) := by omega
    dsimp only [List.cons_append, List.getElem?_cons_zero]
    rw [e, if_pos ⟨h1, by omega⟩, if_pos (by omega)]
    rfl
  · rw [if_neg h]
    rw [List.getElem?_append_right (Nat.le_refl _), Nat.sub_self]
    dsimp only [List.cons_append, List.getElem?_cons_zero]
    have e : ((m + (2 ^ b - 1) : Nat) : Int) - (m : Int) = ((2 ^ b - 1 : Nat) : Int) := by omega
    rw [e, if_pos ⟨by omega, by omega⟩, if_neg (by omega)]
    have hd : (pre ++ ((m + (2 ^ b - 1) : Nat) : Int) :: (restOct (n - (2 ^ b - 1)) ++ l)).drop (pre.length + 1) = restOct (n - (2 ^ b - 1)) ++ l := by
      rw [List.drop_append]
      simp
    rw [hd, takeRest_oct _ _ _ _ _ _ (by decide) (by decide) (by omega) (.inr rfl)]
    have hpn := pow_pos2 b
    refine congrArg Except.ok (Prod.ext ?_ ?_)
    · show ((2 ^ b - 1 : Nat) : Int) + (0 + ((n - (2 ^ b - 1) : Nat) : Int) * 1) = (n : Int)
      omega
    · show pre.length + 1 + (restOct (n - (2 ^ b - 1))).length = pre.length + ((restOct (n - (2 ^ b - 1))).length + 1)
      omega
theorem takeChars_oct : ∀ (cs : List Nat) (l : List Int) (k : Nat), cs.all isChar = true → takeChars cs.length ((cs.map fun (c : Nat) => (c : Int)) ++ l) k = .ok (cs, k + cs.length)
  | [], l, k, _ => rfl
  | c :: cs, l, k, h => by
    rw [List.all_cons, Bool.and_eq_true] at h
    show takeChars (cs.length + 1) ((c : Int) :: (cs.map (fun (c : Nat) => (c : Int)) ++ l)) k = _
    rw [takeChars, Int.toNat_natCast, if_pos h.1, takeChars_oct cs l (k + 1) h.2]
    refine congrArg Except.ok (Prod.ext rfl ?_)
    show k + 1 + cs.length = k + (cs.length + 1)
    omega
theorem takeStr_oct (x : Str) (b m : Nat) (least most : Int) (pre l : List Int) (hx : x.cps.toList.all isChar = true) (h1 : least ≤ x.length) (h2 : (x.length : Int) ≤ most) (hl : 0 ≤ least) (hlm : least ≤ min ((2 ^ b - 1 : Nat) : Int) most) :
    takeStr (pre ++ (strOct x b m ++ l)) b m least most pre.length = .ok (x, pre.length + (strOct x b m).length) := by
  unfold takeStr strOct
  rw [List.append_assoc, takeNum_oct x.length b m least most pre _ h1 h2 hl hlm]
  dsimp only
  rw [Int.toNat_natCast]
  have hd : (pre ++ (numOct x.length b m ++ (x.cps.toList.map (fun (c : Nat) => (c : Int)) ++ l))).drop (pre.length + (numOct x.length b m).length) = x.cps.toList.map (fun (c : Nat) => (c : Int)) ++ l := by
    rw [← List.append_assoc, List.drop_append, ← List.length_append]
    simp
  rw [hd, str_len, takeChars_oct _ _ _ hx]
  refine congrArg Except.ok (Prod.ext rfl ?_)
  show pre.length + (numOct x.length b m).length + x.cps.toList.length = pre.length + (numOct x.length b m ++ x.cps.toList.map fun (c : Nat) => (c : Int)).length
  rw [List.length_append, List.length_map]
  omega
theorem numOct_head (n b m : Nat) : ∃ (o : Int) (l : List Int), numOct n b m = o :: l ∧ (m : Int) ≤ o ∧ o ≤ m + ((2 ^ b - 1 : Nat) : Int) := by
  unfold numOct
  have := pow_pos2 b
  by_cases h : n < 2 ^ b - 1
  · rw [if_pos h]; exact ⟨_, _, rfl, by omega, by omega⟩
  · rw [if_neg h]; exact ⟨_, _, rfl, by omega, by omega⟩
theorem strOct_head (x : Str) (b m : Nat) : ∃ (o : Int) (l : List Int), strOct x b m = o :: l ∧ (m : Int) ≤ o ∧ o ≤ m + ((2 ^ b - 1 : Nat) : Int) := by
  obtain ⟨o, l, e, h⟩ := numOct_head x.length b m
  refine ⟨o, l ++ x.cps.toList.map fun (c : Nat) => (c : Int), ?_, h⟩
  unfold strOct
  rw [e]
  rfl
theorem takeNum0 (n b m : Nat) (least most : Int) (l : List Int) (h1 : least ≤ n) (h2 : (n : Int) ≤ most) (hl : 0 ≤ least) (hlm : least ≤ min ((2 ^ b - 1 : Nat) : Int) most) : takeNum (numOct n b m ++ l) b m least most 0 = .ok ((n : Int), (numOct n b m).length) := by
  have := takeNum_oct n b m least most [] l h1 h2 hl hlm
  rw [List.nil_append, List.length_nil, Nat.zero_add] at this
  exact this
theorem takeStr0 (x : Str) (b m : Nat) (least most : Int) (l : List Int) (hx : x.cps.toList.all isChar = true) (h1 : least ≤ x.length) (h2 : (x.length : Int) ≤ most) (hl : 0 ≤ least) (hlm : least ≤ min ((2 ^ b - 1 : Nat) : Int) most) : takeStr (strOct x b m ++ l) b m least most 0 = .ok (x, (strOct x b m).length) := by
  have := takeStr_oct x b m least most [] l hx h1 h2 hl hlm
  rw [List.nil_append, List.length_nil, Nat.zero_add] at this
  exact this
theorem takeStrE (x : Str) (pre : List Int) (hx : txt (.str x) 0 40 = true) : takeStr (pre ++ strOct x 7 0) 7 0 0 40 pre.length = .ok (x, (pre ++ strOct x 7 0).length) := by
  have h40 := txt_len hx
  have := takeStr_oct x 7 0 0 40 pre [] (txt_all hx) (by omega) (by omega) (by decide) (by decide)
  rw [List.append_nil] at this
  rw [this, List.length_append]
theorem src_fixed (n : Nat) (l : List Int) (h : n ≤ 9999) : takeSrc (numOct n 6 192 ++ l) 0 = .ok (.inr (true, n), (numOct n 6 192).length) := by
  obtain ⟨o, l', e, h1, h2⟩ := numOct_head n 6 192
  have h0 : (numOct n 6 192 ++ l)[0]? = some o := by rw [e]; rfl
  unfold takeSrc
  rw [h0]
  dsimp only
  rw [if_pos (by omega), takeNum0 n 6 192 0 9999 l (by omega) (by omega) (by decide) (by decide)]
  show Except.ok (Sum.inr (true, ((n : Nat) : Int).toNat), _) = _
  rw [Int.toNat_natCast]
theorem src_entry (n : Nat) (l : List Int) (h : n ≤ 9999) : takeSrc (numOct n 6 128 ++ l) 0 = .ok (.inr (false, n), (numOct n 6 128).length) := by
  obtain ⟨o, l', e, h1, h2⟩ := numOct_head n 6 128
  have h3 : ((2 ^ 6 - 1 : Nat) : Int) = 63 := rfl
  have h0 : (numOct n 6 128 ++ l)[0]? = some o := by rw [e]; rfl
  unfold takeSrc
  rw [h0]
  dsimp only
  rw [if_neg (by omega), if_pos (by omega), takeNum0 n 6 128 0 9999 l (by omega) (by omega) (by decide) (by decide)]
  show Except.ok (Sum.inr (false, ((n : Nat) : Int).toNat), _) = _
  rw [Int.toNat_natCast]
theorem src_new (y : Str) (l : List Int) (h : txt (.str y) 1 20 = true) : takeSrc (strOct y 5 64 ++ l) 0 = .ok (.inl y, (strOct y 5 64).length) := by
  obtain ⟨o, l', e, h1, h2⟩ := strOct_head y 5 64
  have h3 : ((2 ^ 5 - 1 : Nat) : Int) = 31 := rfl
  have h20 := txt_len20 h
  have h0 : (strOct y 5 64 ++ l)[0]? = some o := by rw [e]; rfl
  unfold takeSrc
  rw [h0]
  dsimp only
  rw [if_neg (by omega), if_neg (by omega), takeStr0 y 5 64 1 20 l (txt_all h) (by omega) (by omega) (by decide) (by decide)]
  rfl
theorem ins_src (os : List Int) (k : Nat) (s : Str ⊕ Bool × Nat) (x : Str) (n : Nat) (o : Int) (h0 : os[0]? = some o) (ho : 64 ≤ o) (h1 : takeSrc os 0 = .ok (s, k)) (h2 : takeStr os 7 0 0 40 k = .ok (x, n)) : takeIns os 0 = .ok (srcIns x s, n) := by
  unfold takeIns
  rw [h0]
  dsimp only
  rw [if_neg (by omega), if_neg (by omega), h1]
  dsimp only
  rw [h2]
  rfl
theorem whole_of {α : Type} {os : List Int} {f : List Int → Nat → Except Nat (α × Nat)} {x : α} (h : f os 0 = .ok (x, os.length)) : whole os f = .ok x := by
  unfold whole
  rw [h]
  exact if_pos rfl
theorem whole_ins (i : Ins) (ok : i.Ok) : whole i.oct takeIns = .ok i := by
  refine whole_of ?_
  cases i with
  | again n =>
    have hn : n ≤ 9999 := ok
    obtain ⟨o, l', e, h1, h2⟩ := numOct_head n 5 0
    have h3 : ((2 ^ 5 - 1 : Nat) : Int) = 31 := rfl
    have h0 : (numOct n 5 0)[0]? = some o := by rw [e]; rfl
    have ht := takeNum0 n 5 0 0 9999 [] (by omega) (by omega) (by decide) (by decide)
    rw [List.append_nil] at ht
    show takeIns (numOct n 5 0) 0 = _
    unfold takeIns
    rw [h0]
    dsimp only
    rw [if_pos (by omega), ht]
    show Except.ok (Ins.again ((n : Nat) : Int).toNat, _) = _
    rw [Int.toNat_natCast]
    rfl
  | limit n =>
    have hn : n ≤ 9999 := ok
    obtain ⟨o, l', e, h1, h2⟩ := numOct_head n 5 32
    have h3 : ((2 ^ 5 - 1 : Nat) : Int) = 31 := rfl
    have h0 : (numOct n 5 32)[0]? = some o := by rw [e]; rfl
    have ht := takeNum0 n 5 32 0 9999 [] (by omega) (by omega) (by decide) (by decide)
    rw [List.append_nil] at ht
    show takeIns (numOct n 5 32) 0 = _
    unfold takeIns
    rw [h0]
    dsimp only
    rw [if_neg (by omega), if_pos (by omega), ht]
    show Except.ok (Ins.limit ((n : Nat) : Int).toNat, _) = _
    rw [Int.toNat_natCast]
    rfl
  | fixed n x =>
    obtain ⟨o, l', e, h1, h2⟩ := numOct_head n 6 192
    exact ins_src _ _ (.inr (true, n)) x _ o (by show (numOct n 6 192 ++ strOct x 7 0)[0]? = _; rw [e]; rfl) (by omega) (src_fixed n _ ok.1) (takeStrE x _ ok.2)
  | entry n x =>
    obtain ⟨o, l', e, h1, h2⟩ := numOct_head n 6 128
    exact ins_src _ _ (.inr (false, n)) x _ o (by show (numOct n 6 128 ++ strOct x 7 0)[0]? = _; rw [e]; rfl) (by omega) (src_entry n _ ok.1) (takeStrE x _ ok.2)
  | new y x =>
    obtain ⟨o, l', e, h1, h2⟩ := strOct_head y 5 64
    exact ins_src _ _ (.inl y) x _ o (by show (strOct y 5 64 ++ strOct x 7 0)[0]? = _; rw [e]; rfl) (by omega) (src_new y _ ok.1) (takeStrE x _ ok.2)
theorem whole_ans (i : Ans) (ok : i.Ok) : whole i.oct takeAns = .ok i := by
  refine whole_of ?_
  have h63 : ((2 ^ 6 - 1 : Nat) : Int) = 63 := rfl
  have h127 : ((2 ^ 7 - 1 : Nat) : Int) = 127 := rfl
  cases i with
  | done n =>
    have hn : n ≤ 20 := ok
    obtain ⟨o, l', e, h1, h2⟩ := numOct_head n 7 128
    have h0 : (numOct n 7 128)[0]? = some o := by rw [e]; rfl
    have ht := takeNum0 n 7 128 0 20 [] (by omega) (by omega) (by decide) (by decide)
    rw [List.append_nil] at ht
    show takeAns (numOct n 7 128) 0 = _
    unfold takeAns
    rw [h0]
    dsimp only
    rw [if_pos (by omega), ht]
    show Except.ok (Ans.done ((n : Nat) : Int).toNat, _) = _
    rw [Int.toNat_natCast]
    rfl
  | cancelled n =>
    have hn : n ≤ 20 := ok
    obtain ⟨o, l', e, h1, h2⟩ := numOct_head n 6 64
    have h0 : (numOct n 6 64)[0]? = some o := by rw [e]; rfl
    have ht := takeNum0 n 6 64 0 20 [] (by omega) (by omega) (by decide) (by decide)
    rw [List.append_nil] at ht
    show takeAns (numOct n 6 64) 0 = _
    unfold takeAns
    rw [h0]
    dsimp only
    rw [if_neg (by omega), if_pos (by omega), ht]
    show Except.ok (Ans.cancelled ((n : Nat) : Int).toNat, _) = _
    rw [Int.toNat_natCast]
    rfl
  | received n =>
    have hn := ok.1
    have hn2 := ok.2
    obtain ⟨o, l', e, h1, h2⟩ := numOct_head n 6 0
    have h0 : (numOct n 6 0)[0]? = some o := by rw [e]; rfl
    have ht := takeNum0 n 6 0 1 9999 [] (by omega) (by omega) (by decide) (by decide)
    rw [List.append_nil] at ht
    show takeAns (numOct n 6 0) 0 = _
    unfold takeAns
    rw [h0]
    dsimp only
    rw [if_neg (by omega), if_neg (by omega), ht]
    show Except.ok (Ans.received ((n : Nat) : Int).toNat, _) = _
    rw [Int.toNat_natCast]
    rfl
end Fld
/-! instructions and answers as data -/
namespace Fld
open PySem PySem.Spec PyProof.Rows L2
def Ins.dat : Ins → PyData
  | .again n => .tuple [.str "again", .int n]
  | .limit n => .tuple [.str "limit", .int n]
  | .fixed n x => .tuple [.str "fixed", .int n, .str x]
  | .entry n x => .tuple [.str "entry", .int n, .str x]
  | .new y x => .tuple [.str "new", .str y, .str x]
def Ans.dat : Ans → PyData
  | .done n => .tuple [.str "done", .int n]
  | .cancelled n => .tuple [.str "cancelled", .int n]
  | .received n => .tuple [.str "received", .int n]
theorem dp_ins {K : PySem.W.Frag} {H : Hp} {a : Addr} {i : Ins} (h : SqT K H a i.vs) : Dp K H (.ref a) i.dat := by
  cases i with
  | new y x => exact .tup h (.cons (.str _) (.cons (.str _) (.cons (.str _) .nil)))
  | fixed n x => exact .tup h (.cons (.str _) (.cons (.int _) (.cons (.str _) .nil)))
  | entry n x => exact .tup h (.cons (.str _) (.cons (.int _) (.cons (.str _) .nil)))
  | _ => exact .tup h (.cons (.str _) (.cons (.int _) .nil))
theorem dp_ans {K : PySem.W.Frag} {H : Hp} {a : Addr} {i : Ans} (h : SqT K H a i.vs) : Dp K H (.ref a) i.dat := by
  cases i <;> exact .tup h (.cons (.str _) (.cons (.int _) .nil))
theorem dle_flat {n : Nat} {ds : List PyData} (h : ds.length ≤ 100000) (hd : ∀ d ∈ ds, DLe n d) : DLe (n + 1) (.tuple ds) := ⟨h, hd⟩
theorem dle_str (n : Nat) (x : Str) : DLe n (.str x) := by cases n <;> exact True.intro
theorem dle_int (n : Nat) (i : Int) : DLe n (.int i) := by cases n <;> exact True.intro
theorem dle_2 {n : Nat} {a b : PyData} (ha : DLe n a) (hb : DLe n b) : DLe (n + 1) (.tuple [a, b]) := ⟨by show 2 ≤ 100000; decide, fun d hd => by
  rcases List.mem_cons.mp hd with h | h
  · rw [h]; exact ha
  · rw [List.mem_singleton.mp h]; exact hb⟩
theorem dle_3 {n : Nat} {a b c : PyData} (ha : DLe n a) (hb : DLe n b) (hc : DLe n c) : DLe (n + 1) (.tuple [a, b, c]) := ⟨by show 3 ≤ 100000; decide, fun d hd => by
  rcases List.mem_cons.mp hd with h | h
  · rw [h]; exact ha
  rcases List.mem_cons.mp h with h | h
  · rw [h]; exact hb
  · rw [List.mem_singleton.mp h]; exact hc⟩
theorem dleL_2 {n : Nat} {a b : PyData} (ha : DLe n a) (hb : DLe n b) : DLe (n + 1) (.list [a, b]) := ⟨by show 2 ≤ 100000; decide, fun d hd => by
  rcases List.mem_cons.mp hd with h | h
  · rw [h]; exact ha
  · rw [List.mem_singleton.mp h]; exact hb⟩
theorem dle_ins (n : Nat) (i : Ins) : DLe (n + 1) i.dat := by
  cases i with
  | again k => exact dle_2 (dle_str _ _) (dle_int _ _)
  | limit k => exact dle_2 (dle_str _ _) (dle_int _ _)
  | fixed k x => exact dle_3 (dle_str _ _) (dle_int _ _) (dle_str _ _)
  | entry k x => exact dle_3 (dle_str _ _) (dle_int _ _) (dle_str _ _)
  | new y x => exact dle_3 (dle_str _ _) (dle_str _ _) (dle_str _ _)
theorem dle_ans (n : Nat) (i : Ans) : DLe (n + 1) i.dat := by
  cases i <;> exact dle_2 (dle_str _ _) (dle_int _ _)
theorem isChar_lt {c : Nat} (h : isChar c = true) : c < 4294967296 := by
  have h1 : (charCodes.all fun c => decide (c < 4294967296)) = true := by decide
  exact of_decide_eq_true (List.all_eq_true.mp h1 c (List.contains_iff_mem.mp h))
theorem okD_str {x : Str} (h : x.cps.toList.all isChar = true) : okD (.str x) = true := by
  show (x.cps.toList.all fun c => decide (c < 4294967296)) = true
  exact List.all_eq_true.mpr fun c hc => decide_eq_true (isChar_lt (List.all_eq_true.mp h c hc))
theorem okD_nat {n : Nat} (h : n ≤ 9999) : okD (.int (n : Nat)) = true := by
  have h3 : (1000001 : Nat) < 2 ^ 1000 := by decide +kernel
  refine decide_eq_true ?_
  rw [Int.natAbs_natCast]
  omega
theorem okD_ins {i : Ins} (ok : i.Ok) : okD i.dat = true ∧ wD i.dat ≤ 5000 := by
  cases i with
  | again n =>
    refine ⟨?_, by show 10 * 5 + 2 + 2 + (1010 + 2 + 0) + 4 ≤ 5000; decide⟩
    show (okD (.str "again") && (okD (.int (n : Nat)) && true)) = true
    rw [okD_nat ok]; decide +kernel
  | limit n =>
    refine ⟨?_, by show 10 * 5 + 2 + 2 + (1010 + 2 + 0) + 4 ≤ 5000; decide⟩
    show (okD (.str "limit") && (okD (.int (n : Nat)) && true)) = true
    rw [okD_nat ok]; decide +kernel
  | fixed n x =>
    have hx := txt_len ok.2
    refine ⟨?_, by show 10 * 5 + 2 + 2 + (1010 + 2 + (10 * x.length + 2 + 2 + 0)) + 4 ≤ 5000; omega⟩
    show (okD (.str "fixed") && (okD (.int (n : Nat)) && (okD (.str x) && true))) = true
    rw [okD_nat ok.1, okD_str (txt_all ok.2)]; decide +kernel
  | entry n x =>
    have hx := txt_len ok.2
    refine ⟨?_, by show 10 * 5 + 2 + 2 + (1010 + 2 + (10 * x.length + 2 + 2 + 0)) + 4 ≤ 5000; omega⟩
    show (okD (.str "entry") && (okD (.int (n : Nat)) && (okD (.str x) && true))) = true
    rw [okD_nat ok.1, okD_str (txt_all ok.2)]; decide +kernel
  | new y x =>
    have hx := txt_len ok.2
    have hy := txt_len20 ok.1
    refine ⟨?_, by show 10 * 3 + 2 + 2 + (10 * y.length + 2 + 2 + (10 * x.length + 2 + 2 + 0)) + 4 ≤ 5000; omega⟩
    show (okD (.str "new") && (okD (.str y) && (okD (.str x) && true))) = true
    rw [okD_str (txt_all ok.1), okD_str (txt_all ok.2)]; decide +kernel
theorem okD_ans {i : Ans} (ok : i.Ok) : okD i.dat = true ∧ wD i.dat ≤ 5000 := by
  cases i with
  | done n =>
    have h : n ≤ 20 := ok
    refine ⟨?_, by show 10 * 4 + 2 + 2 + (1010 + 2 + 0) + 4 ≤ 5000; decide⟩
    show (okD (.str "done") && (okD (.int (n : Nat)) && true)) = true
    rw [okD_nat (by omega)]; decide +kernel
  | cancelled n =>
    have h : n ≤ 20 := ok
    refine ⟨?_, by show 10 * 9 + 2 + 2 + (1010 + 2 + 0) + 4 ≤ 5000; decide⟩
    show (okD (.str "cancelled") && (okD (.int (n : Nat)) && true)) = true
    rw [okD_nat (by omega)]; decide +kernel
  | received n =>
    refine ⟨?_, by show 10 * 8 + 2 + 2 + (1010 + 2 + 0) + 4 ≤ 5000; decide⟩
    show (okD (.str "received") && (okD (.int (n : Nat)) && true)) = true
    rw [okD_nat ok.2]; decide +kernel
theorem ins_oct_len {i : Ins} (ok : i.Ok) : i.oct.length ≤ 100000 := by
  cases i with
  | again n => have h : n ≤ 9999 := ok; have := numOct_len n 5 0; show (numOct n 5 0).length ≤ _; omega
  | limit n => have h : n ≤ 9999 := ok; have := numOct_len n 5 32; show (numOct n 5 32).length ≤ _; omega
  | fixed n x => have h := ok.1; have := numOct_len n 6 192; have := strOct_len (b := 7) (m := 0) (txt_len ok.2); show (numOct n 6 192 ++ strOct x 7 0).length ≤ _; rw [List.length_append]; omega
  | entry n x => have h := ok.1; have := numOct_len n 6 128; have := strOct_len (b := 7) (m := 0) (txt_len ok.2); show (numOct n 6 128 ++ strOct x 7 0).length ≤ _; rw [List.length_append]; omega
  | new y x => have := strOct_len (b := 5) (m := 64) (txt_len (txt_20 ok.1)); have := strOct_len (b := 7) (m := 0) (txt_len ok.2); show (strOct y 5 64 ++ strOct x 7 0).length ≤ _; rw [List.length_append]; omega
theorem ans_oct_len {i : Ans} (ok : i.Ok) : i.oct.length ≤ 100000 := by
  cases i with
  | done n => have h : n ≤ 20 := ok; have := numOct_len n 7 128; show (numOct n 7 128).length ≤ _; omega
  | cancelled n => have h : n ≤ 20 := ok; have := numOct_len n 6 64; show (numOct n 6 64).length ≤ _; omega
  | received n => have h := ok.2; have := numOct_len n 6 0; show (numOct n 6 0).length ≤ _; omega
/-! ### all octets are octets -/
theorem restOct_oct (r : Nat) : ∀ o ∈ restOct r, 0 ≤ o ∧ o < 256 := by
  induction r using Nat.strongRecOn with
  | _ r ih =>
    intro o ho
    by_cases h : r < 128
    · rw [restOct_lt h] at ho
      have := List.mem_singleton.mp ho
      omega
    · rw [restOct_ge h] at ho
      rcases List.mem_cons.mp ho with z | z
      · omega
      · exact ih (r / 128) (by omega) o z
theorem numOct_oct {n b m : Nat} (h : m + (2 ^ b - 1) ≤ 255) : ∀ o ∈ numOct n b m, 0 ≤ o ∧ o < 256 := by
  intro o ho
  unfold numOct at ho
  by_cases h1 : n < 2 ^ b - 1
  · rw [if_pos h1] at ho
    have := List.mem_singleton.mp ho
    omega
  · rw [if_neg h1] at ho
    rcases List.mem_cons.mp ho with z | z
    · omega
    · exact restOct_oct _ o z
theorem strOct_oct {x : Str} {b m : Nat} (h : m + (2 ^ b - 1) ≤ 255) (hx : x.cps.toList.all isChar = true) : ∀ o ∈ strOct x b m, 0 ≤ o ∧ o < 256 := by
  intro o ho
  rcases List.mem_append.mp ho with z | z
  · exact numOct_oct h o z
  · obtain ⟨c, hc, rfl⟩ := List.mem_map.mp z
    have h1 : (charCodes.all fun c => decide (c < 256)) = true := by decide
    have := of_decide_eq_true (List.all_eq_true.mp h1 c (List.contains_iff_mem.mp (List.all_eq_true.mp hx c hc)))
    omega
theorem app_oct {a b : List Int} (h1 : ∀ o ∈ a, 0 ≤ o ∧ o < 256) (h2 : ∀ o ∈ b, 0 ≤ o ∧ o < 256) : ∀ o ∈ a ++ b, 0 ≤ o ∧ o < 256 := fun o ho => (List.mem_append.mp ho).elim (h1 o) (h2 o)
theorem ins_oct {i : Ins} (ok : i.Ok) : ∀ o ∈ i.oct, 0 ≤ o ∧ o < 256 := by
  cases i with
  | again n => exact numOct_oct (by decide)
  | limit n => exact numOct_oct (by decide)
  | fixed n x => exact app_oct (numOct_oct (by decide)) (strOct_oct (by decide) (txt_all ok.2))
  | entry n x => exact app_oct (numOct_oct (by decide)) (strOct_oct (by decide) (txt_all ok.2))
  | new y x => exact app_oct (strOct_oct (by decide) (txt_all ok.1)) (strOct_oct (by decide) (txt_all ok.2))
theorem ans_oct {i : Ans} (ok : i.Ok) : ∀ o ∈ i.oct, 0 ≤ o ∧ o < 256 := by
  cases i with
  | _ => exact numOct_oct (by decide)
theorem octV_of {os : List Int} (h : ∀ o ∈ os, 0 ≤ o ∧ o < 256) : octV (os.map V.int) = true := by
  refine List.all_eq_true.mpr fun v hv => ?_
  obtain ⟨o, ho, rfl⟩ := List.mem_map.mp hv
  have := h o ho
  exact btw_t (by omega) (by omega)
theorem kinds_ints {K : PySem.W.Frag} {H : Hp} (os : List Int) : ∀ x ∈ os.map V.int, ∃ t, Kind K H x t := fun x hx => by
  obtain ⟨o, _, rfl⟩ := List.mem_map.mp hx
  exact ⟨"int", .int o⟩
theorem read_in {α : Type} {N M : Addr} {f : List Int → Nat → Except Nat (α × Nat)} {R : α → V → Hp → Prop} {H : Hp} {Q : VK} {E : XK} {os : List Int} {x : α} (ho : ∀ o ∈ os, 0 ≤ o ∧ o < 256) (hw : whole os f = .ok x)
    (q : ∀ v H', Same H H' → R x v H' → Q v H') : if octV (os.map V.int) = true then ∃ os' : List Int, os.map V.int = os'.map V.int ∧ RdEnd N H Q E R (whole os' f) else ∀ H', Same H H' → E (.ref M) none H' := by
  rw [if_pos (octV_of ho)]
  refine ⟨os, rfl, ?_⟩
  rw [hw]
  exact q
end Fld
/-! values of any kind, dicts with int and text keys among them: their data, what isinstance, repr and == with a text say of them -/
namespace Fld
open PySem PySem.Spec PyProof.Rows L2
def ofK : Key → PyData
  | .inl i => .int i
  | .inr x => .str x
mutual
inductive Dv (K : PySem.W.Frag) (H : Hp) : V → PyData → Prop
  | non : Dv K H .non .none
  | bl (b : Bool) : Dv K H (.bl b) (.bool b)
  | int (i : Int) : Dv K H (.int i) (.int i)
  | str (x : Str) : Dv K H (.str x) (.str x)
  | lst {a : Addr} {xs : List V} {ds : List PyData} : SqL K H a xs → DvAll K H xs ds → Dv K H (.ref a) (.list ds)
  | tup {a : Addr} {xs : List V} {ds : List PyData} : SqT K H a xs → DvAll K H xs ds → Dv K H (.ref a) (.tuple ds)
  | dic {a : Addr} {kvs : List (Key × V)} {ps : List (PyData × PyData)} : H a = some (.dK kvs) → kvs.map (fun p => ofK p.1) = ps.map (·.1) → DvAll K H (kvs.map (·.2)) (ps.map (·.2)) → Dv K H (.ref a) (.dict ps)
inductive DvAll (K : PySem.W.Frag) (H : Hp) : List V → List PyData → Prop
  | nil : DvAll K H [] []
  | cons {v : V} {vs : List V} {d : PyData} {ds : List PyData} : Dv K H v d → DvAll K H vs ds → DvAll K H (v :: vs) (d :: ds)
end
mutual
theorem Dv.keep {K : PySem.W.Frag} {H H' : Hp} (s : Same H H') : ∀ {v : V} {d : PyData}, Dv K H v d → Dv K H' v d
  | _, _, .non => .non
  | _, _, .bl b => .bl b
  | _, _, .int i => .int i
  | _, _, .str x => .str x
  | _, _, .lst h a => .lst (s.seq h) (DvAll.keep s a)
  | _, _, .tup h a => .tup (s.tup h) (DvAll.keep s a)
  | _, _, .dic h e a => .dic (s _ _ h) e (DvAll.keep s a)
theorem DvAll.keep {K : PySem.W.Frag} {H H' : Hp} (s : Same H H') : ∀ {vs : List V} {ds : List PyData}, DvAll K H vs ds → DvAll K H' vs ds
  | _, _, .nil => .nil
  | _, _, .cons h t => .cons (Dv.keep s h) (DvAll.keep s t)
end
mutual
theorem Dv.ofDp {K : PySem.W.Frag} {H : Hp} : ∀ {v : V} {d : PyData}, Dp K H v d → Dv K H v d
  | _, _, .non => .non
  | _, _, .bl b => .bl b
  | _, _, .int i => .int i
  | _, _, .str x => .str x
  | _, _, .lst h a => .lst h (DvAll.ofDp a)
  | _, _, .tup h a => .tup h (DvAll.ofDp a)
theorem DvAll.ofDp {K : PySem.W.Frag} {H : Hp} : ∀ {vs : List V} {ds : List PyData}, DpAll K H vs ds → DvAll K H vs ds
  | _, _, .nil => .nil
  | _, _, .cons h t => .cons (Dv.ofDp h) (DvAll.ofDp t)
end
/-! no dict within -/
mutual
def noDict : PyData → Bool
  | .list xs => noDictAll xs
  | .tuple xs => noDictAll xs
  | .dict _ => false
  | _ => true
def noDictAll : List PyData → Bool
  | [] => true
  | x :: xs => noDict x && noDictAll xs
end
mutual
theorem Dv.dp {K : PySem.W.Frag} {H : Hp} : ∀ {v : V} {d : PyData}, Dv K H v d → noDict d = true → Dp K H v d
  | _, _, .non, _ => .non
  | _, _, .bl b, _ => .bl b
  | _, _, .int i, _ => .int i
  | _, _, .str x, _ => .str x
  | _, _, .lst h a, n => .lst h (DvAll.dp a (by simpa [noDict] using n))
  | _, _, .tup h a, n => .tup h (DvAll.dp a (by simpa [noDict] using n))
  | _, _, .dic h e a, n => by simp [noDict] at n
theorem DvAll.dp {K : PySem.W.Frag} {H : Hp} : ∀ {vs : List V} {ds : List PyData}, DvAll K H vs ds → noDictAll ds = true → DpAll K H vs ds
  | _, _, .nil, _ => .nil
  | _, _, .cons h t, n => by
    rw [noDictAll, Bool.and_eq_true] at n
    exact .cons (Dv.dp h n.1) (DvAll.dp t n.2)
end
def tyD : PyData → String
  | .none => "NoneType"
  | .bool _ => "bool"
  | .int _ => "int"
  | .str _ => "str"
  | .list _ => "list"
  | .tuple _ => "tuple"
  | .dict _ => "dict"
theorem Dv.kind {K : PySem.W.Frag} {H : Hp} {v : V} {d : PyData} (h : Dv K H v d) : Kind K H v (tyD d) := by
  cases h with
  | non => exact .non
  | bl b => exact .bl b
  | int i => exact .int i
  | str x => exact .str x
  | lst h a => exact .lst h
  | tup h a => exact .tup h
  | dic h e a => exact .dK h
theorem DvAll.len {K : PySem.W.Frag} {H : Hp} : ∀ {xs : List V} {ds : List PyData}, DvAll K H xs ds → xs.length = ds.length
  | _, _, .nil => rfl
  | _, _, .cons _ t => by rw [List.length_cons, List.length_cons, DvAll.len t]
theorem DvAll.at {K : PySem.W.Frag} {H : Hp} : ∀ {xs : List V} {ds : List PyData} {i : Nat} {x : V}, DvAll K H xs ds → xs[i]? = some x → ∃ d, ds[i]? = some d ∧ Dv K H x d
  | _, _, _, _, .nil, e => by simp at e
  | _, _, 0, _, .cons h _, e => by simp at e; subst e; exact ⟨_, rfl, h⟩
  | _, _, i + 1, x, .cons _ t, e => by
    obtain ⟨d, h1, h2⟩ := DvAll.at (i := i) (x := x) t (by simpa using e)
    exact ⟨d, by simpa using h1, h2⟩
theorem DvAll.at' {K : PySem.W.Frag} {H : Hp} : ∀ {xs : List V} {ds : List PyData} {i : Nat} {d : PyData}, DvAll K H xs ds → ds[i]? = some d → ∃ x, xs[i]? = some x ∧ Dv K H x d
  | _, _, _, _, .nil, e => by simp at e
  | _, _, 0, _, .cons h _, e => by simp at e; subst e; exact ⟨_, rfl, h⟩
  | _, _, i + 1, x, .cons _ t, e => by
    obtain ⟨d, h1, h2⟩ := DvAll.at' (i := i) (d := x) t (by simpa using e)
    exact ⟨d, by simpa using h1, h2⟩
theorem DvAll.app {K : PySem.W.Frag} {H : Hp} : ∀ {xs ys : List V} {ds es : List PyData}, DvAll K H xs ds → DvAll K H ys es → DvAll K H (xs ++ ys) (ds ++ es)
  | _, _, _, _, .nil, s => s
  | _, _, _, _, .cons r t, s => .cons r (DvAll.app t s)
theorem DvAll.take {K : PySem.W.Frag} {H : Hp} : ∀ {xs : List V} {ds : List PyData} (n : Nat), DvAll K H xs ds → DvAll K H (xs.take n) (ds.take n)
  | _, _, 0, _ => .nil
  | _, _, _ + 1, .nil => .nil
  | _, _, n + 1, .cons r t => .cons r (DvAll.take n t)
theorem DvAll.drop {K : PySem.W.Frag} {H : Hp} : ∀ {xs : List V} {ds : List PyData} (n : Nat), DvAll K H xs ds → DvAll K H (xs.drop n) (ds.drop n)
  | _, _, 0, r => r
  | _, _, _ + 1, .nil => .nil
  | _, _, n + 1, .cons _ t => DvAll.drop n t
theorem DvAll.set {K : PySem.W.Frag} {H : Hp} {x : V} {d : PyData} (r : Dv K H x d) : ∀ {xs : List V} {ds : List PyData} (i : Nat), DvAll K H xs ds → DvAll K H (xs.set i x) (ds.set i d)
  | _, _, _, .nil => .nil
  | _, _, 0, .cons _ t => .cons r t
  | _, _, i + 1, .cons q t => .cons q (DvAll.set r i t)
/-! ### what it reads as -/
theorem pairs_reads {P : Program} {w : World} {h : Heap} : ∀ {es : List DictEntry} {vs : List (Key × Value)}, Pairs (mixKind P w) es vs → (∃ as, ReadsAll h (es.map (·.key)) (vs.map fun p => ofK p.1) as ∧ as = []) ∧ es.map (·.val) = vs.map (·.2)
  | _, _, .nil => ⟨⟨_, .nil, rfl⟩, rfl⟩
  | _, _, .cons (e := e) (kv := kv) hk hv t => by
    obtain ⟨⟨as, h1, h0⟩, h2⟩ := pairs_reads (h := h) t
    refine ⟨?_, by rw [List.map_cons, List.map_cons, h2, hv]⟩
    rcases keyIs_shape (k := kv.1) (v := e.key) hk with ⟨i, u, e1, e2⟩ | ⟨x, u, e1, e2⟩
    · refine ⟨_, ReadsAll.cons (as := []) (bs := as) ?_ h1, by rw [h0]; rfl⟩
      show Reads h e.key (ofK kv.1) []
      rw [e1, e2]
      exact Reads.int i u
    · refine ⟨_, ReadsAll.cons (as := []) (bs := as) ?_ h1, by rw [h0]; rfl⟩
      show Reads h e.key (ofK kv.1) []
      rw [e1, e2]
      exact Reads.str x u
theorem kv_keys {kvs : List (Key × V)} {vs : List (Key × Value)} (r : KV kvs vs) : vs.map (fun p => ofK p.1) = kvs.map fun p => ofK p.1 := by
  have h := r.keys
  have e1 : vs.map (fun p => ofK p.1) = (vs.map (·.1)).map ofK := by rw [List.map_map]; rfl
  have e2 : kvs.map (fun p => ofK p.1) = (kvs.map (·.1)).map ofK := by rw [List.map_map]; rfl
  rw [e1, e2, h]
theorem kv_vals : ∀ {kvs : List (Key × V)} {vs : List (Key × Value)}, KV kvs vs → Vals (kvs.map (·.2)) (vs.map (·.2))
  | _, _, .nil => .nil
  | _, _, .cons r t => .cons r.2 (kv_vals t)
theorem sys_tracked {X : Cx} {pins : List (Addr × Obj)} {σ : L2.St} {H : Hp} {s : Shared} (I : Inv X pins σ H s) {a : Addr} {kvs : List (Key × V)} (e : H a = some (.dK kvs)) : (a == sysModules) = false := (dk_of I.hok e).2.1
mutual
theorem Dv.reads {X : Cx} {pins : List (Addr × Obj)} {σ : L2.St} {H : Hp} {s : Shared} (I : Inv X pins σ H s) : ∀ {d : PyData} {v : V} {u : Value}, Dv X.K H v d → RelV v u → ∃ as, Reads s.heap u d as
  | _, _, _, .non, r => by cases r; exact ⟨_, Reads.none⟩
  | _, _, _, .bl b, r => by cases r; exact ⟨_, Reads.bool b⟩
  | _, _, _, .int i, r => by obtain ⟨t, rfl⟩ := r; exact ⟨_, Reads.int i t⟩
  | _, _, _, .str x, r => by obtain ⟨t, rfl⟩ := r; exact ⟨_, Reads.str x t⟩
  | _, _, _, .lst hs ha, r => by
    cases r
    obtain ⟨its, rv, ⟨o, n, ho, hc, _, hd⟩, _⟩ := I.list hs
    obtain ⟨as, hr⟩ := DvAll.reads I ha rv
    exact ⟨_, Reads.list ho hc hd hr⟩
  | _, _, _, .tup hs ha, r => by
    cases r
    obtain ⟨its, rv, ⟨o, ho, hc, n, hd⟩, _⟩ := I.tuple hs
    obtain ⟨as, hr⟩ := DvAll.reads I ha rv
    exact ⟨_, Reads.tuple ho hc hd hr⟩
  | .dict ps, _, _, .dic (kvs := kvs) hs he ha, r => by
    cases r
    obtain ⟨_, hy, vs, kv, ⟨o, es, ep, ho, ex, hd, _, pr, _⟩⟩ := dk_of I.hok hs
    obtain ⟨⟨as, h1, n1⟩, h2⟩ := pairs_reads (h := s.heap) pr
    obtain ⟨bs, h3⟩ := DvAll.reads I ha (kv_vals kv)
    rw [kv_keys kv, he] at h1
    exact ⟨_, Reads.dict ho ex.1 hd h1 (by rw [h2]; exact h3)⟩
theorem DvAll.reads {X : Cx} {pins : List (Addr × Obj)} {σ : L2.St} {H : Hp} {s : Shared} (I : Inv X pins σ H s) : ∀ {ds : List PyData} {vs : List V} {us : List Value}, DvAll X.K H vs ds → Vals vs us → ∃ as, ReadsAll s.heap us ds as
  | _, _, _, .nil, r => by cases r; exact ⟨_, ReadsAll.nil⟩
  | _, _, _, .cons h1 h2, r => by
    cases r with
    | cons r1 r2 =>
      obtain ⟨as, q1⟩ := Dv.reads I h1 r1
      obtain ⟨bs, q2⟩ := DvAll.reads I h2 r2
      exact ⟨_, ReadsAll.cons q1 q2⟩
end
/-- the text of a value by its parts, none of which is deeper than n -/
def Shw (P : Program) (w : World) (h : Heap) (n : Nat) (u : Value) (t : Str) : Prop := ∃ bs, ReadAtMost h n bs ∧ ReprK P w bs h n u t
def ShwAll (P : Program) (w : World) (h : Heap) (n : Nat) (us : List Value) (ts : List Str) : Prop := ∃ bs, ReadAtMost h n bs ∧ ReprAllK P w bs h n us ts
theorem shw_is {P : Program} {w : World} {h : Heap} {n : Nat} {u : Value} {t : Str} (r : ReprIs P w u t) : Shw P w h n u t := ⟨[], fun _ z => (nomatch z), .of_is r _ _ _⟩
theorem ShwAll.mono {P : Program} {w : World} {h : Heap} {n m : Nat} {us : List Value} {ts : List Str} (l : n ≤ m) : ShwAll P w h n us ts → ShwAll P w h m us ts := fun ⟨bs, a, b⟩ => ⟨bs, a.mono l, b.more_le (fun _ z => z) l⟩
theorem ShwAll.cons {P : Program} {w : World} {h : Heap} {n m : Nat} {u : Value} {t : Str} {us : List Value} {ts : List Str} : Shw P w h n u t → ShwAll P w h m us ts → ShwAll P w h (max n m) (u :: us) (t :: ts) := by
  rintro ⟨bs, a, b⟩ ⟨cs, c, d⟩
  have l1 := Nat.le_max_left n m
  have l2 := Nat.le_max_right n m
  refine ⟨bs ++ cs, (a.mono l1).append (c.mono l2), ReprAllK.cons ((b.more fun z hz => ?_).level_le l1) (d.more_le (fun z hz => ?_) l2)⟩
  · exact List.mem_append.mpr (.inl hz)
  · exact List.mem_append.mpr (.inr hz)
theorem pairs_show {P : Program} {w : World} {h : Heap} : ∀ {es : List DictEntry} {vs : List (Key × Value)}, Pairs (mixKind P w) es vs → PyData.showableAll (vs.map fun p => ofK p.1) = true → (∀ t ∈ PyData.shownAll (vs.map fun p => ofK p.1), t.length ≤ sizeLine) →
    ShwAll P w h (PyData.depthAll (vs.map fun p => ofK p.1)) (es.map (·.key)) (PyData.shownAll (vs.map fun p => ofK p.1))
  | _, _, .nil, _, _ => ⟨[], fun _ z => (nomatch z), by simp only [List.map_nil, PyData.shownAll]; exact .nil⟩
  | _, _, .cons (e := e) (kv := kv) hk hv t, hs, hz => by
    rw [List.map_cons, PyData.showableAll, Bool.and_eq_true] at hs
    rw [List.map_cons, PyData.shownAll] at hz
    rw [List.map_cons, List.map_cons, PyData.shownAll, PyData.depthAll]
    refine ShwAll.cons ?_ (pairs_show t hs.2 fun x hx => hz x (List.mem_cons.mpr (.inr hx)))
    have z1 := hz _ (List.mem_cons.mpr (.inl rfl))
    have s1 := hs.1
    rcases keyIs_shape (k := kv.1) (v := e.key) hk with ⟨i, u, e1, e2⟩ | ⟨x, u, e1, e2⟩
    · rw [e1] at s1 z1 ⊢
      rw [e2]
      have s2 : PyData.showable (.int i) = true := s1
      exact shw_is (ReprIs.int u (by simpa [PyData.showable] using s2))
    · rw [e1] at s1 z1 ⊢
      rw [e2]
      exact shw_is (ReprIs.str x u (by simpa [ofK, PyData.shown] using z1))
mutual
theorem Dv.show {X : Cx} {pins : List (Addr × Obj)} {σ : L2.St} {H : Hp} {s : Shared} (I : Inv X pins σ H s) : ∀ {d : PyData} {v : V} {u : Value}, Dv X.K H v d → RelV v u → d.showable = true → d.shown.length ≤ sizeLine → Shw X.prog X.w s.heap d.depth u d.shown
  | _, _, _, .non, r, _, _ => by cases r; rw [PyData.shown]; exact shw_is ReprIs.none
  | _, _, _, .bl b, r, _, _ => by cases r; rw [PyData.shown]; exact shw_is (ReprIs.bool b)
  | _, _, _, .int i, r, hs, _ => by obtain ⟨t, rfl⟩ := r; rw [PyData.shown]; exact shw_is (ReprIs.int t (by simpa [PyData.showable] using hs))
  | _, _, _, .str x, r, _, hz => by obtain ⟨t, rfl⟩ := r; rw [PyData.shown] at hz ⊢; exact shw_is (ReprIs.str x t hz)
  | .list ds, .ref a, _, .lst hs ha, r, sh, hz => by
    cases r
    obtain ⟨its, rv, ⟨o, n, ho, hc, _, hd⟩, _⟩ := I.list hs
    obtain ⟨as, hr⟩ := DvAll.reads I ha rv
    have rd : Reads s.heap (.ref a) (.list ds) _ := Reads.list ho hc hd hr
    rw [PyData.shown] at hz ⊢
    obtain ⟨bs, hb, hk⟩ := DvAll.show I ha rv (by simpa [PyData.showable] using sh) fun t ht => Nat.le_trans (listText_mem_le ht) hz
    have na : a ∉ bs := not_mem_of_deeper rd (by rw [PyData.depth]; omega) hb
    refine ⟨a :: bs, ReadAtMost.cons rd (by rw [PyData.depth]; omega) hb, ?_⟩
    rw [PyData.depth]
    cases its with
    | nil =>
      cases hr
      simp only [listText_nil, PyData.shownAll]
      exact .listEmpty ho hc hd
    | cons x l => exact .list ho hc hd na (by simpa using hk.length_eq) fun i y e => hk.item i y (by simpa using e)
  | .tuple ds, .ref a, _, .tup hs ha, r, sh, hz => by
    cases r
    obtain ⟨its, rv, ⟨o, ho, hc, n, hd⟩, _⟩ := I.tuple hs
    obtain ⟨as, hr⟩ := DvAll.reads I ha rv
    have rd : Reads s.heap (.ref a) (.tuple ds) _ := Reads.tuple ho hc hd hr
    rw [PyData.shown] at hz ⊢
    obtain ⟨bs, hb, hk⟩ := DvAll.show I ha rv (by simpa [PyData.showable] using sh) fun t ht => Nat.le_trans (tupleText_mem_le ht) hz
    have na : a ∉ bs := not_mem_of_deeper rd (by rw [PyData.depth]; omega) hb
    refine ⟨a :: bs, ReadAtMost.cons rd (by rw [PyData.depth]; omega) hb, ?_⟩
    rw [PyData.depth]
    exact .tuple ho hc hd na hk
  | .dict ps, .ref a, _, .dic (kvs := kvs) hs he ha, r, sh, hz => by
    cases r
    obtain ⟨_, hy, vs, kv, ⟨o, es, ep, ho, ex, hd, _, pr, _⟩⟩ := dk_of I.hok hs
    obtain ⟨⟨as, h1, n1⟩, h2⟩ := pairs_reads (h := s.heap) pr
    obtain ⟨bs, h3⟩ := DvAll.reads I ha (kv_vals kv)
    obtain ⟨sh1, sh2⟩ := PyData.showableKv_split ps (by simpa [PyData.showable] using sh)
    rw [PyData.shown] at hz ⊢
    have k1 := pairs_show (h := s.heap) pr (by rw [kv_keys kv, he]; exact sh1) (fun t ht => by
      rw [kv_keys kv, he] at ht
      obtain ⟨p, hp, hl⟩ := PyData.shownKv_key_le ps t ht
      exact Nat.le_trans hl (Nat.le_trans (dictText_mem_le hp) hz))
    rw [kv_keys kv, he] at k1 h1
    have k2 := DvAll.show I ha (kv_vals kv) sh2 (fun t ht => by
      obtain ⟨p, hp, hl⟩ := PyData.shownKv_val_le ps t ht
      exact Nat.le_trans hl (Nat.le_trans (dictText_mem_le hp) hz))
    rw [← h2] at k2 h3
    have rd : Reads s.heap (.ref a) (.dict ps) _ := Reads.dict ho ex.1 hd h1 h3
    obtain ⟨b1, r1, q1⟩ := k1.mono (PyData.depthAll_keys_le ps)
    obtain ⟨b2, r2, q2⟩ := k2.mono (PyData.depthAll_vals_le ps)
    have hb := r1.append r2
    have na : a ∉ b1 ++ b2 := not_mem_of_deeper rd (by rw [PyData.depth]; omega) hb
    refine ⟨a :: (b1 ++ b2), ReadAtMost.cons rd (by rw [PyData.depth]; omega) hb, ?_⟩
    rw [PyData.depth, PyData.shownKv_eq]
    refine .dict ho ex.1 hd hy na (ReprEntriesK.of_two es.toList _ _ (q1.more_le (fun z hz => ?_) (Nat.le_refl _)) (q2.more_le (fun z hz => ?_) (Nat.le_refl _)))
    · exact List.mem_append.mpr (.inl hz)
    · exact List.mem_append.mpr (.inr hz)
theorem DvAll.show {X : Cx} {pins : List (Addr × Obj)} {σ : L2.St} {H : Hp} {s : Shared} (I : Inv X pins σ H s) : ∀ {ds : List PyData} {vs : List V} {us : List Value}, DvAll X.K H vs ds → Vals vs us → PyData.showableAll ds = true → (∀ t ∈ PyData.shownAll ds, t.length ≤ sizeLine) →
    ShwAll X.prog X.w s.heap (PyData.depthAll ds) us (PyData.shownAll ds)
  | _, _, _, .nil, r, _, _ => by cases r; rw [PyData.shownAll]; exact ⟨[], fun _ z => (nomatch z), .nil⟩
  | _, _, _, .cons h1 h2, r, sh, hz => by
    cases r with
    | cons r1 r2 =>
      rw [PyData.showableAll, Bool.and_eq_true] at sh
      rw [PyData.shownAll] at hz ⊢
      rw [PyData.depthAll]
      exact ShwAll.cons (Dv.show I h1 r1 sh.1 (hz _ (List.mem_cons.mpr (.inl rfl)))) (DvAll.show I h2 r2 sh.2 fun x hx => hz x (List.mem_cons.mpr (.inr hx)))
end
/-! ### weight and repr -/
mutual
def okV : PyData → Bool
  | .none => true
  | .bool _ => true
  | .int i => decide (i.natAbs < 2 ^ 1000)
  | .str x => (x.cps.toList.all fun c => decide (c < 4294967296)) && decide (x.length ≤ 100000)
  | .list xs => okVAll xs
  | .tuple xs => okVAll xs
  | .dict ps => okVKv ps
def okVAll : List PyData → Bool
  | [] => true
  | x :: xs => okV x && okVAll xs
def okVKv : List (PyData × PyData) → Bool
  | [] => true
  | (a, b) :: r => okV a && okV b && okVKv r
end
mutual
/-- no less than the length of its text -/
def wV : PyData → Nat
  | .none => 4
  | .bool _ => 5
  | .int _ => 1010
  | .str x => 10 * x.length + 2
  | .list xs => wVAll xs + 4
  | .tuple xs => wVAll xs + 4
  | .dict ps => wVKv ps + 4
def wVAll : List PyData → Nat
  | [] => 0
  | x :: xs => wV x + 2 + wVAll xs
def wVKv : List (PyData × PyData) → Nat
  | [] => 0
  | (a, b) :: r => wV a + wV b + 6 + wVKv r
end
theorem wVAll_len : ∀ ds : List PyData, ds.length ≤ wVAll ds
  | [] => Nat.le_refl _
  | d :: ds => by have := wVAll_len ds; rw [wVAll, List.length_cons]; omega
theorem wVAll_mem : ∀ {ds : List PyData} {d : PyData}, d ∈ ds → wV d + 2 ≤ wVAll ds
  | e :: ds, d, h => by
    rw [wVAll]
    rcases List.mem_cons.mp h with rfl | h
    · omega
    · have := wVAll_mem h; omega
theorem wVAll_app : ∀ (xs ys : List PyData), wVAll (xs ++ ys) = wVAll xs + wVAll ys
  | [], ys => by rw [List.nil_append, wVAll]; omega
  | x :: xs, ys => by rw [List.cons_append, wVAll, wVAll, wVAll_app xs ys]; omega
theorem okVAll_app : ∀ (xs ys : List PyData), okVAll (xs ++ ys) = (okVAll xs && okVAll ys)
  | [], ys => by rw [List.nil_append, okVAll]; rfl
  | x :: xs, ys => by rw [List.cons_append, okVAll, okVAll, okVAll_app xs ys, Bool.and_assoc]
theorem okVAll_mem : ∀ {ds : List PyData} {d : PyData}, okVAll ds = true → d ∈ ds → okV d = true
  | e :: ds, d, k, h => by
    rw [okVAll, Bool.and_eq_true] at k
    rcases List.mem_cons.mp h with rfl | h
    · exact k.1
    · exact okVAll_mem k.2 h
theorem okVAll_of : ∀ {ds : List PyData}, (∀ d ∈ ds, okV d = true) → okVAll ds = true
  | [], _ => rfl
  | e :: ds, h => by
    rw [okVAll, Bool.and_eq_true]
    exact ⟨h e (List.mem_cons_self ..), okVAll_of fun d hd => h d (List.mem_cons_of_mem _ hd)⟩
theorem dictText_le : ∀ (ps : List (PyData × PyData)), (dictText (PyData.shownKv ps)).length ≤ piled (PyData.shownKv ps) + 4 := by
  intro ps
  unfold dictText
  rw [strLen_append, strLen_append]
  have e1 : ((("{" : String) : Str)).length = 1 := rfl
  have e3 : ((("}" : String) : Str)).length = 1 := rfl
  by_cases h : PyData.shownKv ps = []
  · rw [h]
    have e0 : (Str.join ", " []).length = 0 := rfl
    omega
  · have := join_length_add (PyData.shownKv ps) h
    omega
mutual
theorem shownV_le : ∀ d : PyData, okV d = true → d.shown.length ≤ wV d ∧ d.showable = true
  | .none, _ => ⟨by decide, rfl⟩
  | .bool b, _ => ⟨by cases b <;> decide, rfl⟩
  | .int i, h => by
    have h' : i.natAbs < 2 ^ 1000 := of_decide_eq_true (show decide _ = true from h)
    exact ⟨toString_le h', decide_eq_true (log_le h')⟩
  | .str x, h => by
    refine ⟨StrLaws.reprText_len x fun c hc => ?_, rfl⟩
    have h' : ((x.cps.toList.all fun c => decide (c < 4294967296)) && decide (x.length ≤ 100000)) = true := h
    rw [Bool.and_eq_true] at h'
    have := of_decide_eq_true (List.all_eq_true.mp h'.1 c hc)
    have e : (16 : Nat) ^ 8 = 4294967296 := by decide
    omega
  | .list xs, h => by
    have ih := shownVAll_le xs h
    refine ⟨?_, by rw [PyData.showable]; exact ih.2⟩
    rw [PyData.shown, wV]
    have := listText_le (PyData.shownAll xs)
    omega
  | .tuple xs, h => by
    have ih := shownVAll_le xs h
    refine ⟨?_, by rw [PyData.showable]; exact ih.2⟩
    rw [PyData.shown, wV]
    have := tupleText_le (PyData.shownAll xs)
    omega
  | .dict ps, h => by
    have ih := shownVKv_le ps h
    refine ⟨?_, by rw [PyData.showable]; exact ih.2⟩
    rw [PyData.shown, wV]
    have := dictText_le ps
    omega
theorem shownVAll_le : ∀ ds : List PyData, okVAll ds = true → piled (PyData.shownAll ds) ≤ wVAll ds ∧ PyData.showableAll ds = true
  | [], _ => ⟨by rw [PyData.shownAll]; exact Nat.le_refl _, rfl⟩
  | d :: ds, h => by
    have h' : (okV d && okVAll ds) = true := by rw [okVAll] at h; exact h
    rw [Bool.and_eq_true] at h'
    have i1 := shownV_le d h'.1
    have i2 := shownVAll_le ds h'.2
    refine ⟨?_, by rw [PyData.showableAll, i1.2, i2.2]; rfl⟩
    rw [PyData.shownAll, wVAll]
    have e2 : piled (d.shown :: PyData.shownAll ds) = d.shown.length + 2 + piled (PyData.shownAll ds) := by unfold piled; rw [List.map_cons, List.sum_cons]
    omega
theorem shownVKv_le : ∀ ps : List (PyData × PyData), okVKv ps = true → piled (PyData.shownKv ps) ≤ wVKv ps ∧ PyData.showableKv ps = true
  | [], _ => ⟨by rw [PyData.shownKv]; exact Nat.le_refl _, rfl⟩
  | (a, b) :: r, h => by
    have h' : (okV a && okV b && okVKv r) = true := by rw [okVKv] at h; exact h
    rw [Bool.and_eq_true, Bool.and_eq_true] at h'
    have i1 := shownV_le a h'.1.1
    have i2 := shownV_le b h'.1.2
    have i3 := shownVKv_le r h'.2
    refine ⟨?_, by rw [PyData.showableKv, i1.2, i2.2, i3.2]; rfl⟩
    rw [PyData.shownKv, wVKv]
    have e2 : ∀ (t : Str) (l : List Str), piled (t :: l) = t.length + 2 + piled l := fun t l => by unfold piled; rw [List.map_cons, List.sum_cons]
    rw [e2, strLen_append, strLen_append]
    have e3 : (((": " : String) : Str)).length = 2 := rfl
    omega
end
/-- how deep -/
def rReprV (K : PySem.W.Frag) : List V → Hp → VK → Prop := fun xs H Q => ∃ (x : V) (d : PyData), xs = [x] ∧ Dv K H x d ∧ okV d = true ∧ d.depth ≤ 40 ∧ wV d ≤ 10000000 ∧ Q (.str d.shown) H
theorem shows_call {P : Program} {w : World} {s : Shared} {a : Addr} {d : PyData} {T idr : String} {A : Around} {E : Value → Shared → Prop} {Q : Value → Shared → Prop} (hg : A.guards = some []) (hu : A.units + (d.depth + 1) < cLine) (S : ShowsBy P w s.heap a d T idr)
    (q : ∀ h' u tk, (∀ b o, s.heap.get? b = some o → h'.get? b = some o) → Q (.str d.shown u) { s with heap := h', toks := tk }) : wpAny (model P w) A (call (.builtin "repr") [.ref a]) Q E s :=
  call_repr_slot (by omega) (S.typeIs s fun _ _ e => e) S.slotRepr (S.call A.in1 E s _ hg (by show A.units + 1 + d.depth < cLine; omega) (fun _ _ e => e) fun h' u tk hk => ⟨_, _, rfl, q h' u tk hk⟩)
theorem call_reprV {X : Cx} (hg : X.A.guards = some []) (hu : X.A.units + 64 < cLine) : CallR X (.builtin "repr") (rReprV X.K) := by
  intro pins s σ H xs us Q I r h
  obtain ⟨x, d, rfl, hd, ok, hn, hw, q⟩ := h
  obtain ⟨u, rfl, ru⟩ := vals1 r
  obtain ⟨hl, hs⟩ := shownV_le d ok
  have hsz : d.shown.length ≤ sizeLine := by rw [sizeLine_eq]; omega
  cases hd with
  | non =>
    cases ru
    exact P.repr_of_none ⟨.str _, H, I.tok _, ⟨_, rfl⟩, q⟩
  | bl b =>
    cases ru
    exact P.repr_of_bool ⟨.str _, H, I.tok _, ⟨_, rfl⟩, q⟩
  | int i =>
    obtain ⟨t, rfl⟩ := ru
    have h' : i.natAbs < 2 ^ 1000 := of_decide_eq_true (show decide _ = true from ok)
    exact P.repr_of_int (log_le h') ⟨.str _, H, I.tok _, ⟨_, rfl⟩, q⟩
  | str z =>
    obtain ⟨t, rfl⟩ := ru
    exact P.repr_of_str ⟨.str _, H, I.tok _, ⟨_, rfl⟩, q⟩ hsz
  | @lst a xs ds hs2 ha =>
    cases ru
    refine shows_call (T := "list") (idr := "list.__repr__") (d := .list ds) hg (by omega) ⟨F.slot_list_repr.toG, F.slot_list_str, F.slot_list_format, fun s2 hk => ?_, fun A E s2 Q2 hg2 hu2 hk0 hQ => ?_⟩ fun h' tu tk hk => ⟨.str _, H, I.kept hk, ⟨_, rfl⟩, q⟩
    · obtain ⟨its, rv, ⟨o, n, ho, hc, _, hd⟩, _⟩ := I.list hs2
      exact ⟨o, hk _ _ ho, hc⟩
    · obtain ⟨its, rv, ⟨o, n, ho, hc, _, hd⟩, _⟩ := I.list hs2
      rw [PyData.shown] at hsz hQ
      rw [PyData.depth] at hu2
      obtain ⟨bs, hb, hk⟩ := DvAll.show I ha rv (by simpa [PyData.showable] using hs) fun t ht => Nat.le_trans (listText_mem_le ht) hsz
      obtain ⟨as, hr⟩ := DvAll.reads I ha rv
      have na : a ∉ bs := not_mem_of_deeper (Reads.list ho hc hd hr) (by rw [PyData.depth]; omega) hb
      cases its with
      | nil =>
        cases hr
        rw [PyData.shownAll, listText_nil] at hQ
        exact call_list_repr_empty ⟨o, hk0 _ _ ho, hc⟩ (hk0 _ _ ho) hd (hQ s2.heap _ _ fun _ _ e => e)
      | cons y l => exact call_list_reprK ho hc hd na (by simpa using hk.length_eq) (fun i z e => hk.item i z (by simpa using e)) hg2 (fun b _ => Clear.nil b) hu2 hk0 hQ hsz
  | @tup a xs ds hs2 ha =>
    cases ru
    refine shows_call (T := "tuple") (idr := "tuple.__repr__") (d := .tuple ds) hg (by omega) ⟨F.slot_tuple_repr, F.slot_tuple_str, F.slot_tuple_format, fun s2 hk => ?_, fun A E s2 Q2 hg2 hu2 hk0 hQ => ?_⟩ fun h' tu tk hk => ⟨.str _, H, I.kept hk, ⟨_, rfl⟩, q⟩
    · obtain ⟨its, rv, ⟨o, ho, hc, n, hd⟩, _⟩ := I.tuple hs2
      exact ⟨o, hk _ _ ho, hc⟩
    · obtain ⟨its, rv, ⟨o, ho, hc, n, hd⟩, _⟩ := I.tuple hs2
      rw [PyData.shown] at hsz hQ
      rw [PyData.depth] at hu2
      obtain ⟨bs, hb, hk⟩ := DvAll.show I ha rv (by simpa [PyData.showable] using hs) fun t ht => Nat.le_trans (tupleText_mem_le ht) hsz
      obtain ⟨as, hr⟩ := DvAll.reads I ha rv
      have na : a ∉ bs := not_mem_of_deeper (Reads.tuple ho hc hd hr) (by rw [PyData.depth]; omega) hb
      exact call_tuple_reprK ho hc hd na hk hg2 (fun b _ => Clear.nil b) hu2 hk0 hQ hsz
  | @dic a kvs ps hs2 he ha =>
    cases ru
    refine shows_call (T := "dict") (idr := "dict.__repr__") (d := .dict ps) hg (by omega) ⟨F.slot_dict_repr, F.slot_dict_str, F.slot_dict_format, fun s2 hk => ?_, fun A E s2 Q2 hg2 hu2 hk0 hQ => ?_⟩ fun h' tu tk hk => ⟨.str _, H, I.kept hk, ⟨_, rfl⟩, q⟩
    · obtain ⟨_, hy, vs, kv, ⟨o, es, ep, ho, ex, hd, _, pr, _⟩⟩ := dk_of I.hok hs2
      exact ⟨o, hk _ _ ho, ex.1⟩
    · obtain ⟨_, hy, vs, kv, ⟨o, es, ep, ho, ex, hd, _, pr, _⟩⟩ := dk_of I.hok hs2
      obtain ⟨⟨as, h1, n1⟩, h2⟩ := pairs_reads (h := s.heap) pr
      obtain ⟨bs, h3⟩ := DvAll.reads I ha (kv_vals kv)
      obtain ⟨sh1, sh2⟩ := PyData.showableKv_split ps (by simpa [PyData.showable] using hs)
      rw [PyData.shown] at hsz hQ
      rw [PyData.depth] at hu2
      have k1 := pairs_show (h := s.heap) pr (by rw [kv_keys kv, he]; exact sh1) (fun t ht => by
        rw [kv_keys kv, he] at ht
        obtain ⟨p, hp, hl⟩ := PyData.shownKv_key_le ps t ht
        exact Nat.le_trans hl (Nat.le_trans (dictText_mem_le hp) hsz))
      rw [kv_keys kv, he] at k1 h1
      have k2 := DvAll.show I ha (kv_vals kv) sh2 (fun t ht => by
        obtain ⟨p, hp, hl⟩ := PyData.shownKv_val_le ps t ht
        exact Nat.le_trans hl (Nat.le_trans (dictText_mem_le hp) hsz))
      rw [← h2] at k2 h3
      obtain ⟨b1, r1, q1⟩ := k1.mono (PyData.depthAll_keys_le ps)
      obtain ⟨b2, r2, q2⟩ := k2.mono (PyData.depthAll_vals_le ps)
      have na : a ∉ b1 ++ b2 := not_mem_of_deeper (Reads.dict ho ex.1 hd h1 h3) (by rw [PyData.depth]; omega) (r1.append r2)
      rw [PyData.shownKv_eq] at hQ hsz
      refine call_dict_reprK ho ex.1 hd hy na (ReprEntriesK.of_two es.toList _ _ (q1.more_le (fun z hz => ?_) (Nat.le_refl _)) (q2.more_le (fun z hz => ?_) (Nat.le_refl _))) hg2 (fun b _ => Clear.nil b) hu2 hk0 hQ hsz
      · exact List.mem_append.mpr (.inl hz)
      · exact List.mem_append.mpr (.inr hz)
end Fld
/-! what a field, a list of fields, a setting is, over data of any kind -/
namespace Fld
open PySem PySem.Spec PyProof.Rows L2
def dBtw : PyData → Int → Int → Bool
  | .int i, a, b => decide (a ≤ i) && decide (i ≤ b)
  | _, _, _ => false
def dTxt : PyData → Int → Int → Bool
  | .str x, a, b => decide (a ≤ (x.length : Int)) && decide ((x.length : Int) ≤ b) && x.cps.toList.all isChar
  | _, _, _ => false
theorem Dv.btw {K : PySem.W.Frag} {H : Hp} {v : V} {d : PyData} (h : Dv K H v d) (a b : Int) : Fld.btw v a b = dBtw d a b := by cases h <;> rfl
theorem Dv.txt {K : PySem.W.Frag} {H : Hp} {v : V} {d : PyData} (h : Dv K H v d) (a b : Int) : Fld.txt v a b = dTxt d a b := by cases h <;> rfl
/-- not too great for any rule -/
def Lim (d : PyData) : Prop := okV d = true ∧ wV d ≤ 10000000
theorem Dv.strLe {K : PySem.W.Frag} {H : Hp} {v : V} {d : PyData} (h : Dv K H v d) (hw : Lim d) : ∀ x, v = .str x → x.length ≤ 100000 := by
  rintro x rfl
  cases h
  have h' : ((x.cps.toList.all fun c => decide (c < 4294967296)) && decide (x.length ≤ 100000)) = true := hw.1
  rw [Bool.and_eq_true, decide_eq_true_eq] at h'
  exact h'.2
def dField : PyData → Bool
  | .tuple [n, v] => dTxt n 1 20 && dTxt v 0 40
  | _ => false
def dFields (most : Nat) : PyData → Bool
  | .tuple ds => decide (ds.length ≤ most) && ds.all dField
  | _ => false
def dSetting : PyData → Bool
  | .tuple [f, r, w] => dFields 12 f && dBtw r 0 120 && dBtw w 0 4
  | _ => false
def dOctets : PyData → Bool
  | .list ds => ds.all fun d => dBtw d 0 255
  | _ => false
def isTup : PyData → Bool
  | .tuple _ => true
  | _ => false
def isLst : PyData → Bool
  | .list _ => true
  | _ => false
def isStr : PyData → Bool
  | .str _ => true
  | _ => false
def isDic : PyData → Bool
  | .dict _ => true
  | _ => false
theorem sub_tup (d : PyData) : subT (tyD d) "tuple" = isTup d := by
  cases d with
  | none => decide
  | bool b => show subT "bool" "tuple" = false; decide
  | int i => show subT "int" "tuple" = false; decide
  | str x => show subT "str" "tuple" = false; decide
  | list l => show subT "list" "tuple" = false; decide
  | tuple l => show subT "tuple" "tuple" = true; decide
  | dict l => show subT "dict" "tuple" = false; decide
theorem sub_lst (d : PyData) : subT (tyD d) "list" = isLst d := by
  cases d with
  | none => decide
  | bool b => show subT "bool" "list" = false; decide
  | int i => show subT "int" "list" = false; decide
  | str x => show subT "str" "list" = false; decide
  | list l => show subT "list" "list" = true; decide
  | tuple l => show subT "tuple" "list" = false; decide
  | dict l => show subT "dict" "list" = false; decide
theorem sub_str (d : PyData) : subT (tyD d) "str" = isStr d := by
  cases d with
  | none => decide
  | bool b => show subT "bool" "str" = false; decide
  | int i => show subT "int" "str" = false; decide
  | str x => show subT "str" "str" = true; decide
  | list l => show subT "list" "str" = false; decide
  | tuple l => show subT "tuple" "str" = false; decide
  | dict l => show subT "dict" "str" = false; decide
theorem sub_dic (d : PyData) : subT (tyD d) "dict" = isDic d := by
  cases d with
  | none => decide
  | bool b => show subT "bool" "dict" = false; decide
  | int i => show subT "int" "dict" = false; decide
  | str x => show subT "str" "dict" = false; decide
  | list l => show subT "list" "dict" = false; decide
  | tuple l => show subT "tuple" "dict" = false; decide
  | dict l => show subT "dict" "dict" = true; decide
theorem Dv.asT {K : PySem.W.Frag} {H : Hp} {v : V} {d : PyData} (h : Dv K H v d) (e : subT (tyD d) "tuple" = true) : ∃ a xs ds, v = .ref a ∧ d = .tuple ds ∧ SqT K H a xs ∧ DvAll K H xs ds := by
  rw [sub_tup] at e
  cases h <;> first | cases e | skip
  rename_i hs ha
  exact ⟨_, _, _, rfl, rfl, hs, ha⟩
theorem Dv.asL {K : PySem.W.Frag} {H : Hp} {v : V} {d : PyData} (h : Dv K H v d) (e : subT (tyD d) "list" = true) : ∃ a xs ds, v = .ref a ∧ d = .list ds ∧ SqL K H a xs ∧ DvAll K H xs ds := by
  rw [sub_lst] at e
  cases h <;> first | cases e | skip
  rename_i hs ha
  exact ⟨_, _, _, rfl, rfl, hs, ha⟩
theorem Dv.asS {K : PySem.W.Frag} {H : Hp} {v : V} {d : PyData} (h : Dv K H v d) (e : subT (tyD d) "str" = true) : ∃ x, v = .str x ∧ d = .str x := by
  rw [sub_str] at e
  cases h <;> first | cases e | skip
  exact ⟨_, rfl, rfl⟩
theorem nb {c : Bool} (e : (!c) = true) : c = false := by cases c <;> first | rfl | cases e
theorem nb' {c : Bool} (e : (!c) = false) : c = true := by cases c <;> first | rfl | cases e
theorem dField_no {d : PyData} (e : subT (tyD d) "tuple" = false) : dField d = false := by
  rw [sub_tup] at e
  cases d <;> first | rfl | cases e
theorem dFields_no {d : PyData} {m : Nat} (e : subT (tyD d) "tuple" = false) : dFields m d = false := by
  rw [sub_tup] at e
  cases d <;> first | rfl | cases e
theorem dSetting_no {d : PyData} (e : subT (tyD d) "tuple" = false) : dSetting d = false := by
  rw [sub_tup] at e
  cases d <;> first | rfl | cases e
theorem dOctets_no {d : PyData} (e : subT (tyD d) "list" = false) : dOctets d = false := by
  rw [sub_lst] at e
  cases d <;> first | rfl | cases e
theorem dTxt_no {d : PyData} {a b : Int} (e : subT (tyD d) "str" = false) : dTxt d a b = false := by
  rw [sub_str] at e
  cases d <;> first | rfl | cases e
/-- a check: True or False, all that stood stands -/
def sp_chk (K : PySem.W.Frag) (f : PyData → Bool) : Sp := fun vs H Q _ => ∃ (v : V) (d : PyData), vs = [v] ∧ Dv K H v d ∧ Lim d ∧ ∀ H', Same H H' → Q (.bl (f d)) H'
def sp_chkM (K : PySem.W.Frag) (f : Nat → PyData → Bool) : Sp := fun vs H Q _ => ∃ (v : V) (d : PyData) (m : Nat), vs = [v, .int (m : Nat)] ∧ Dv K H v d ∧ Lim d ∧ ∀ H', Same H H' → Q (.bl (f m d)) H'
def sp_chkT (K : PySem.W.Frag) : Sp := fun vs H Q _ => ∃ (v : V) (d : PyData) (a b : Int), vs = [v, .int a, .int b] ∧ Dv K H v d ∧ Lim d ∧ ∀ H', Same H H' → Q (.bl (dTxt d a b)) H'
def sp_chkB (K : PySem.W.Frag) : Sp := fun vs H Q _ => ∃ (v : V) (d : PyData) (a b : Int), vs = [v, .int a, .int b] ∧ Dv K H v d ∧ Q (.bl (dBtw d a b)) H
theorem len2 {K : PySem.W.Frag} {H : Hp} {xs : List V} {ds : List PyData} (h : DvAll K H xs ds) (e : xs.length = 2) : ∃ x0 x1 d0 d1, xs = [x0, x1] ∧ ds = [d0, d1] ∧ Dv K H x0 d0 ∧ Dv K H x1 d1 := by
  cases h with
  | nil => cases e
  | cons h0 t =>
    cases t with
    | nil => cases e
    | cons h1 t =>
      cases t with
      | nil => exact ⟨_, _, _, _, rfl, rfl, h0, h1⟩
      | cons _ _ => simp at e
theorem len3 {K : PySem.W.Frag} {H : Hp} {xs : List V} {ds : List PyData} (h : DvAll K H xs ds) (e : xs.length = 3) : ∃ x0 x1 x2 d0 d1 d2, xs = [x0, x1, x2] ∧ ds = [d0, d1, d2] ∧ Dv K H x0 d0 ∧ Dv K H x1 d1 ∧ Dv K H x2 d2 := by
  cases h with
  | nil => cases e
  | cons h0 t =>
    obtain ⟨_, _, _, _, rfl, rfl, h1, h2⟩ := len2 t (by simpa using e)
    exact ⟨_, _, _, _, _, _, rfl, rfl, h0, h1, h2⟩
theorem dField_ne {ds : List PyData} (h : ds.length ≠ 2) : dField (.tuple ds) = false := by
  match ds, h with
  | [], _ => rfl
  | [_], _ => rfl
  | [_, _], h => exact absurd rfl h
  | _ :: _ :: _ :: _, _ => rfl
theorem dSetting_ne {ds : List PyData} (h : ds.length ≠ 3) : dSetting (.tuple ds) = false := by
  match ds, h with
  | [], _ => rfl
  | [_], _ => rfl
  | [_, _], _ => rfl
  | [_, _, _], h => exact absurd rfl h
  | _ :: _ :: _ :: _ :: _, _ => rfl
theorem decI {n m : Nat} : decide (V.int (n : Int) = V.int (m : Int)) = decide (n = m) := by
  rw [decide_eq_decide]
  constructor
  · intro h; injection h with h; omega
  · rintro rfl; rfl
theorem nAt {n m : Nat} (e : decide (V.int (n : Int) = V.int (m : Int)) = true) : n = m := by rw [decI] at e; exact of_decide_eq_true e
theorem nNe {n m : Nat} (e : decide (V.int (n : Int) = V.int (m : Int)) = false) : n ≠ m := by rw [decI] at e; exact of_decide_eq_false e
/-- the weight of an item -/
theorem w_tup {ds : List PyData} {d : PyData} (h : d ∈ ds) (hw : Lim (.tuple ds)) : Lim d := by
  obtain ⟨h1, h2⟩ := hw
  rw [okV] at h1
  rw [wV] at h2
  have := wVAll_mem h
  exact ⟨okVAll_mem h1 h, by omega⟩
theorem w_lst {ds : List PyData} {d : PyData} (h : d ∈ ds) (hw : Lim (.list ds)) : Lim d := by
  obtain ⟨h1, h2⟩ := hw
  rw [okV] at h1
  rw [wV] at h2
  have := wVAll_mem h
  exact ⟨okVAll_mem h1 h, by omega⟩
theorem w_tupLen {ds : List PyData} (hw : Lim (.tuple ds)) : ds.length ≤ 10000000 := by
  have h2 := hw.2
  rw [wV] at h2; have := wVAll_len ds; omega
theorem w_lstLen {ds : List PyData} (hw : Lim (.list ds)) : ds.length ≤ 10000000 := by
  have h2 := hw.2
  rw [wV] at h2; have := wVAll_len ds; omega
/-- a list of truths, one for each item -/
theorem tests_of {K : PySem.W.Frag} {H : Hp} {xs : List V} {ds : List PyData} (f : PyData → Bool) (h : DvAll K H xs ds) : (List.range xs.length).map (fun i => V.bl (f (ds.getD i .none))) = (ds.map f).map V.bl := by
  rw [h.len, List.map_map]
  exact range_map ds (fun c => V.bl (f c)) .none
theorem all_id {ds : List PyData} (f : PyData → Bool) : (ds.map f).all id = ds.all f := by rw [List.all_map]; rfl
theorem inB {b : Bool} (bs : List Bool) : inV (.bl false) (bs.map V.bl) = !bs.all id := by
  unfold inV
  rw [List.any_map]
  induction bs with
  | nil => rfl
  | cons c r ih =>
    rw [List.any_cons, List.all_cons, ih]
    cases c <;> rfl
theorem flatB (bs : List Bool) : (bs.map V.bl).all flatV = true := by
  rw [List.all_map]; exact List.all_eq_true.mpr fun _ _ => rfl
end Fld
/-! data apart from the pen: what is drawn, what is laid new -/
namespace Fld
open PySem PySem.Spec PyProof.Rows L2
/-- the heap but for some objects -/
def OffS (S : List Addr) (H : Hp) : Hp := fun b => if b ∈ S then none else H b
/-- these objects are there -/
def Hid (S : List Addr) (H : Hp) : Prop := ∀ b ∈ S, H b ≠ none
section
variable {K : PySem.W.Frag} {p c q : Addr} {H H' H1 H2 : Hp} {o : HO} {n m : Nat} {S : List Addr}
theorem off_sub (S : List Addr) (H : Hp) : Same (OffS S H) H := fun b u e => by
  unfold OffS at e
  by_cases h : b ∈ S
  · rw [if_pos h] at e; cases e
  · rw [if_neg h] at e; exact e
theorem off_ne {b : Addr} (h : b ∉ S) : OffS S H b = H b := by unfold OffS; rw [if_neg h]
theorem off_get {b : Addr} (h : OffS S H b = some o) : b ∉ S ∧ H b = some o := by
  unfold OffS at h
  by_cases e : b ∈ S
  · rw [if_pos e] at h; cases h
  · rw [if_neg e] at h; exact ⟨e, h⟩
theorem But.off (b : But p H H') (hp : p ∈ S) : Same (OffS S H) (OffS S H') := fun a u e => by
  obtain ⟨n, e⟩ := off_get e
  rw [off_ne n]
  exact b a u (fun z => n (z ▸ hp)) e
theorem _root_.L2.Same.off (s : Same H H') : Same (OffS S H) (OffS S H') := fun a u e => by
  obtain ⟨n, e⟩ := off_get e
  rw [off_ne n]
  exact s a u e
theorem Drew.off (d : Drew p c H H' n) (hp : p ∈ S) : Same (OffS S H) (OffS S H') := d.but.off hp
theorem Dv.on {v : V} {d : PyData} (h : Dv K (OffS S H) v d) : Dv K H v d := h.keep (off_sub S H)
theorem DvAll.on {v : List V} {d : List PyData} (h : DvAll K (OffS S H) v d) : DvAll K H v d := h.keep (off_sub S H)
theorem Hid.keep (h : Hid S H) (s : Same H H') : Hid S H' := fun b hb => by
  cases e : H b with
  | none => exact absurd e (h b hb)
  | some u => rw [s b u e]; exact fun z => nomatch z
theorem Pen.some_ (h : Pen H p c n) : H p ≠ none := by
  obtain ⟨⟨xs, e⟩, _⟩ := h.some
  rw [e]; exact fun z => nomatch z
theorem Hid.drew (h : Hid S H) (d : Drew p c H H' n) : Hid S H' := fun b hb => by
  by_cases z : b = p
  · rw [z]; exact d.pen.some_
  · cases e : H b with
    | none => exact absurd e (h b hb)
    | some u => rw [d.but b u z e]; exact fun z => nomatch z
theorem Hid.one (h : Pen H p c n) : Hid [p] H := fun b hb => by rw [List.mem_singleton.mp hb]; exact h.some_
theorem Hid.nil : Hid [] H := fun b hb => nomatch hb
theorem Hid.cons (h : Hid S H) (hq : H q ≠ none) : Hid (q :: S) H := fun b hb => by
  rcases List.mem_cons.mp hb with rfl | hb
  · exact hq
  · exact h b hb
theorem Hid.not (h : Hid S H) (hq : H q = none) : q ∉ S := fun z => h q z hq
theorem Hid.upd (h : Hid S H) : Hid S (L2.upd H q o) := fun b hb => by
  by_cases z : b = q
  · rw [z, upd_same]; exact fun z => nomatch z
  · rw [upd_ne z]; exact h b hb
/-- a new object is laid beside the hidden ones -/
theorem off_new (hq : H q = none) (hS : Hid S H) : OffS S (upd H q o) q = some o := by rw [off_ne (hS.not hq), upd_same]
theorem new_lst {xs : List V} {ds : List PyData} (hq : H q = none) (hS : Hid S H) (h : DvAll K (OffS S H) xs ds) : Dv K (OffS S (upd H q (.lst xs))) (.ref q) (.list ds) := .lst (SqL.of (off_new hq hS)) (h.keep (Same.new hq).off)
theorem new_tup {xs : List V} {ds : List PyData} (hq : H q = none) (hS : Hid S H) (h : DvAll K (OffS S H) xs ds) : Dv K (OffS S (upd H q (.tup xs))) (.ref q) (.tuple ds) := .tup (SqT.of (off_new hq hS)) (h.keep (Same.new hq).off)
theorem new_dic (hq : H q = none) (hS : Hid S H) : Dv K (OffS S (upd H q (.dK []))) (.ref q) (.dict []) := .dic (off_new hq hS) rfl .nil
theorem at_lst {a : Addr} {xs : List V} {ds : List PyData} (h : H a = some (.lst xs)) (hn : a ∉ S) (d : DvAll K (OffS S H) xs ds) : Dv K (OffS S H) (.ref a) (.list ds) := .lst (SqL.of (by rw [off_ne hn]; exact h)) d
theorem at_tup {a : Addr} {xs : List V} {ds : List PyData} (h : H a = some (.tup xs)) (hn : a ∉ S) (d : DvAll K (OffS S H) xs ds) : Dv K (OffS S H) (.ref a) (.tuple ds) := .tup (SqT.of (by rw [off_ne hn]; exact h)) d
/-- a hidden object turns, and is hidden no more -/
theorem off_put : Same (OffS (q :: S) H) (OffS S (upd H q o)) := fun b u e => by
  obtain ⟨n, e⟩ := off_get e
  have nq : b ≠ q := fun z => n (by rw [z]; exact List.mem_cons_self ..)
  rw [off_ne fun z => n (List.mem_cons_of_mem _ z), upd_ne nq]
  exact e
theorem off_more (hq : H q = none) : Same (OffS S H) (OffS (q :: S) H) := fun b u e => by
  obtain ⟨n, e⟩ := off_get e
  rw [off_ne fun z => ?_]
  · exact e
  · rcases List.mem_cons.mp z with rfl | z
    · rw [hq] at e; cases e
    · exact n z
theorem off_less : Same (OffS (q :: S) H) (OffS S H) := fun b u e => by
  obtain ⟨n, e⟩ := off_get e
  rw [off_ne fun z => n (List.mem_cons_of_mem _ z)]
  exact e
theorem Pen.new (h : Pen H p c n) (hq : H q = none) : Pen (L2.upd H q o) p c n := h.keep (Same.new hq)
theorem DvAll.mem {xs : List V} {ds : List PyData} {x : V} (h : DvAll K H xs ds) (hx : x ∈ xs) : ∃ d ∈ ds, Dv K H x d := by
  obtain ⟨i, hi, rfl⟩ := List.mem_iff_getElem.mp hx
  obtain ⟨d, hd, hv⟩ := h.at (i := i) (x := xs[i]) (by simp)
  exact ⟨d, List.mem_of_getElem? hd, hv⟩
theorem DvAll.of : ∀ {xs : List V}, (∀ x ∈ xs, ∃ d, Dv K H x d) → ∃ ds, DvAll K H xs ds
  | [], _ => ⟨[], .nil⟩
  | x :: xs, h => by
    obtain ⟨d, hd⟩ := h x (List.mem_cons_self ..)
    obtain ⟨ds, hds⟩ := DvAll.of (xs := xs) fun y hy => h y (List.mem_cons_of_mem _ hy)
    exact ⟨d :: ds, .cons hd hds⟩
theorem DvAll.rep {x : V} {d : PyData} (h : Dv K H x d) : ∀ k : Nat, DvAll K H (List.replicate k x) (List.replicate k d)
  | 0 => .nil
  | k + 1 => .cons h (DvAll.rep h k)
end
/-- data that is small: at most d deep, at most b of weight -/
structure Sz (b k : Nat) (d : PyData) : Prop where
  ok : okV d = true
  w : wV d ≤ b
  dp : d.depth ≤ k
theorem Sz.mono {b k b' k' : Nat} {d : PyData} (h : Sz b k d) (l1 : b ≤ b') (l2 : k ≤ k') : Sz b' k' d := ⟨h.ok, Nat.le_trans h.w l1, Nat.le_trans h.dp l2⟩
theorem depthAll_le {k : Nat} : ∀ {ds : List PyData}, (∀ d ∈ ds, d.depth ≤ k) → PyData.depthAll ds ≤ k
  | [], _ => by rw [PyData.depthAll]; omega
  | d :: ds, h => by
    rw [PyData.depthAll]
    have h1 := h d (List.mem_cons_self ..)
    have h2 := depthAll_le (ds := ds) fun e he => h e (List.mem_cons_of_mem _ he)
    omega
theorem depthAll_mem : ∀ {ds : List PyData} {d : PyData}, d ∈ ds → d.depth ≤ PyData.depthAll ds
  | e :: ds, d, h => by
    rw [PyData.depthAll]
    rcases List.mem_cons.mp h with rfl | h
    · omega
    · have := depthAll_mem h; omega
def SzAll (k : Nat) (ds : List PyData) : Prop := okVAll ds = true ∧ PyData.depthAll ds ≤ k
theorem sz_tup {b k : Nat} {ds : List PyData} (h : Sz b (k + 1) (.tuple ds)) : okVAll ds = true ∧ wVAll ds + 4 ≤ b ∧ PyData.depthAll ds ≤ k := by
  obtain ⟨h1, h2, h3⟩ := h
  rw [okV] at h1
  rw [wV] at h2
  rw [PyData.depth] at h3
  exact ⟨h1, h2, by omega⟩
theorem sz_lst {b k : Nat} {ds : List PyData} (h : Sz b (k + 1) (.list ds)) : okVAll ds = true ∧ wVAll ds + 4 ≤ b ∧ PyData.depthAll ds ≤ k := by
  obtain ⟨h1, h2, h3⟩ := h
  rw [okV] at h1
  rw [wV] at h2
  rw [PyData.depth] at h3
  exact ⟨h1, h2, by omega⟩
theorem sz_tup' {b k : Nat} {ds : List PyData} (h1 : okVAll ds = true) (h2 : wVAll ds + 4 ≤ b) (h3 : PyData.depthAll ds ≤ k) : Sz b (k + 1) (.tuple ds) := ⟨by rw [okV]; exact h1, by rw [wV]; exact h2, by rw [PyData.depth]; omega⟩
theorem sz_lst' {b k : Nat} {ds : List PyData} (h1 : okVAll ds = true) (h2 : wVAll ds + 4 ≤ b) (h3 : PyData.depthAll ds ≤ k) : Sz b (k + 1) (.list ds) := ⟨by rw [okV]; exact h1, by rw [wV]; exact h2, by rw [PyData.depth]; omega⟩
theorem sz_str {x : Str} {b : Nat} (h : x.cps.toList.all (fun c => decide (c < 4294967296)) = true) (hl : x.length ≤ 100000) (hb : 10 * x.length + 2 ≤ b) : Sz b 0 (.str x) := ⟨by rw [okV, h, decide_eq_true hl]; rfl, by rw [wV]; exact hb, by rw [PyData.depth]; omega⟩
theorem chars_small {x : Str} (h : x.cps.toList.all isChar = true) : x.cps.toList.all (fun c => decide (c < 4294967296)) = true := by
  rw [List.all_eq_true] at h ⊢
  intro c hc
  have h1 : charCodes.all (fun c => decide (c < 4294967296)) = true := by decide
  exact List.all_eq_true.mp h1 c (List.contains_iff_mem.mp (h c hc))
theorem sz_txt {x : Str} {a : Int} {b : Nat} (h : txt (.str x) a (b : Nat) = true) (hb : b ≤ 100000 := by decide) : Sz (10 * b + 2) 0 (.str x) := by
  have h2 := txt_all h
  have h' : (decide (a ≤ (x.length : Int)) && decide ((x.length : Int) ≤ (b : Nat)) && x.cps.toList.all isChar) = true := h
  simp only [Bool.and_eq_true, decide_eq_true_eq] at h'
  exact sz_str (chars_small h2) (by omega) (by omega)
theorem sz_int {i : Int} (h : i.natAbs < 2 ^ 1000 := by decide +kernel) : Sz 1010 0 (.int i) := ⟨decide_eq_true h, Nat.le_refl _, by rw [PyData.depth]; omega⟩
/-! ### what a draw of any data promises -/
/-- k draws at most; data of weight b at most, d deep at most -/
def sp_drawV (K : PySem.W.Frag) (k b e : Nat) (f : PyData → Prop) : Sp := fun vs H Q _ => ∃ (p c : Addr) (n : Nat) (S : List Addr), vs = [.ref p] ∧ Pen H p c n ∧ n ≤ 700000 ∧ p ∈ S ∧ Hid S H ∧
  ∀ (v : V) (d : PyData) H', Dv K (OffS S H') v d → Sz b e d → f d → Drew p c H H' (n + k) → Q v H'
/-- one of a text's signs -/
def sp_one_str : Sp := fun vs H Q _ => ∃ (p c : Addr) (n : Nat) (z : Str), vs = [.ref p, .str z] ∧ Pen H p c n ∧ 0 < z.length ∧ z.length ≤ 1000 ∧ n ≤ 900000 ∧ ∀ (x : Nat) H', x ∈ z.cps.toList → Drew p c H H' (n + 1) → Q (.str ⟨#[x]⟩) H'
def otherSigns : Str := "!#$&'()*+,<>?@ABCDEFGHIJKLMNOPQRSTUVWXYZ[]^_`{|}~\"\\"
theorem other_small : otherSigns.cps.toList.all (fun c => decide (c < 4294967296)) = true := by decide +kernel
theorem small_app {x y : Str} (hx : x.cps.toList.all (fun c => decide (c < 4294967296)) = true) (hy : y.cps.toList.all (fun c => decide (c < 4294967296)) = true) : (x ++ y).cps.toList.all (fun c => decide (c < 4294967296)) = true := by
  have e : (x ++ y).cps.toList = x.cps.toList ++ y.cps.toList := by
    show (x.cps ++ y.cps).toList = _
    simp
  rw [e, List.all_append, hx, hy]; rfl
theorem small_cut {x : Str} {a b : Option Int} (hx : x.cps.toList.all (fun c => decide (c < 4294967296)) = true) : (cutS x a b).cps.toList.all (fun c => decide (c < 4294967296)) = true := by
  rw [List.all_eq_true] at hx ⊢
  intro c hc
  unfold cutS at hc
  exact hx c (List.mem_of_mem_drop (List.mem_of_mem_take hc))
theorem cutS_len (x : Str) (a b : Option Int) : (cutS x a b).length ≤ x.length := by
  unfold cutS
  show ((x.cps.toList.drop _).take _).toArray.size ≤ x.cps.size
  simp only [List.size_toArray, List.length_take, List.length_drop, Array.length_toList]
  omega
end Fld
namespace Fld
open PySem PySem.Spec PyProof.Rows L2
/-- a value with one part changed, or another: no more than one deeper, at most twice the weight -/
def sp_bent (K : PySem.W.Frag) (M : Nat) : Sp := fun vs H Q _ => ∃ (p c : Addr) (n : Nat) (v : V) (d : PyData) (b e : Nat) (S : List Addr), vs = [.ref p, v] ∧ Pen H p c n ∧ n + 100 * (e + 1) ≤ 600000 ∧ p ∈ S ∧ Hid S H ∧ Dv K (OffS S H) v d ∧ Sz b e d ∧ e ≤ M ∧ M ≤ 20 ∧ b ≤ 100000 ∧
  ∀ (v' : V) (d' : PyData) H', Dv K (OffS S H') v' d' → Sz (2 * b + 2000) (e + 1) d' → Drew p c H H' (n + 100 * (e + 1)) → Q v' H'
def sp_bent_sub (K : PySem.W.Frag) : Nat → Sp
  | 0 => fun _ _ _ _ => False
  | m + 1 => sp_bent K m
theorem wVAll_set : ∀ {ds : List PyData} {i : Nat} {d e : PyData}, ds[i]? = some d → wVAll (ds.set i e) + wV d = wVAll ds + wV e
  | [], _, _, _, h => by simp at h
  | x :: xs, 0, d, e, h => by
    simp at h; subst h
    rw [List.set_cons_zero, wVAll, wVAll]
    omega
  | x :: xs, i + 1, d, e, h => by
    have := wVAll_set (ds := xs) (i := i) (d := d) (e := e) (by simpa using h)
    rw [List.set_cons_succ, wVAll, wVAll]; omega
theorem okVAll_set {ds : List PyData} {i : Nat} {e : PyData} (h : okVAll ds = true) (he : okV e = true) : okVAll (ds.set i e) = true := by
  refine okVAll_of fun d hd => ?_
  rcases List.mem_or_eq_of_mem_set hd with h1 | rfl
  · exact okVAll_mem h h1
  · exact he
theorem depthAll_set {k : Nat} {ds : List PyData} {i : Nat} {e : PyData} (h : PyData.depthAll ds ≤ k) (he : e.depth ≤ k) : PyData.depthAll (ds.set i e) ≤ k := by
  refine depthAll_le fun d hd => ?_
  rcases List.mem_or_eq_of_mem_set hd with h1 | rfl
  · exact Nat.le_trans (depthAll_mem h1) h
  · exact he
theorem wVAll_erase : ∀ (ds : List PyData) (i : Nat), wVAll (ds.eraseIdx i) ≤ wVAll ds
  | [], _ => Nat.le_refl _
  | x :: xs, 0 => by rw [List.eraseIdx_cons_zero, wVAll]; omega
  | x :: xs, i + 1 => by have := wVAll_erase xs i; rw [List.eraseIdx_cons_succ, wVAll, wVAll]; omega
theorem DvAll.erase {K : PySem.W.Frag} {H : Hp} : ∀ {xs : List V} {ds : List PyData} (i : Nat), DvAll K H xs ds → DvAll K H (xs.eraseIdx i) (ds.eraseIdx i)
  | _, _, _, .nil => .nil
  | _, _, 0, .cons _ t => t
  | _, _, i + 1, .cons q t => .cons q (DvAll.erase i t)
theorem okVAll_erase {ds : List PyData} {i : Nat} (h : okVAll ds = true) : okVAll (ds.eraseIdx i) = true := okVAll_of fun d hd => okVAll_mem h (List.mem_of_mem_eraseIdx hd)
theorem depthAll_erase {k : Nat} {ds : List PyData} {i : Nat} (h : PyData.depthAll ds ≤ k) : PyData.depthAll (ds.eraseIdx i) ≤ k := depthAll_le fun d hd => Nat.le_trans (depthAll_mem (List.mem_of_mem_eraseIdx hd)) h
def insD (ds : List PyData) (i : Nat) (d : PyData) : List PyData := ds.take i ++ [d] ++ ds.drop i
theorem wVAll_ins (ds : List PyData) (i : Nat) (d : PyData) : wVAll (insD ds i d) = wVAll ds + wV d + 2 := by
  unfold insD
  rw [wVAll_app, wVAll_app]
  have e : wVAll ds = wVAll (ds.take i) + wVAll (ds.drop i) := by rw [← wVAll_app, List.take_append_drop]
  have e2 : wVAll [d] = wV d + 2 := by rw [wVAll, wVAll]
  omega
theorem ins_mem {ds : List PyData} {i : Nat} {d x : PyData} (h : x ∈ insD ds i d) : x ∈ ds ∨ x = d := by
  unfold insD at h
  rcases List.mem_append.mp h with h | h
  · rcases List.mem_append.mp h with h | h
    · exact .inl (List.mem_of_mem_take h)
    · exact .inr (List.mem_singleton.mp h)
  · exact .inl (List.mem_of_mem_drop h)
theorem okVAll_ins {ds : List PyData} {i : Nat} {d : PyData} (h : okVAll ds = true) (hd : okV d = true) : okVAll (insD ds i d) = true := okVAll_of fun x hx => by
  rcases ins_mem hx with h1 | rfl
  · exact okVAll_mem h h1
  · exact hd
theorem depthAll_ins {k : Nat} {ds : List PyData} {i : Nat} {d : PyData} (h : PyData.depthAll ds ≤ k) (hd : d.depth ≤ k) : PyData.depthAll (insD ds i d) ≤ k := depthAll_le fun x hx => by
  rcases ins_mem hx with h1 | rfl
  · exact Nat.le_trans (depthAll_mem h1) h
  · exact hd
theorem DvAll.ins {K : PySem.W.Frag} {H : Hp} {xs : List V} {ds : List PyData} {x : V} {d : PyData} (i : Nat) (h : DvAll K H xs ds) (hx : Dv K H x d) : DvAll K H (xs.take i ++ [x] ++ xs.drop i) (insD ds i d) := ((h.take i).app (.cons hx .nil)).app (h.drop i)
theorem depth0 {d : PyData} (h : d.depth ≤ 0) : isTup d = false ∧ isLst d = false := by
  cases d with
  | list l => rw [PyData.depth] at h; omega
  | tuple l => rw [PyData.depth] at h; omega
  | _ => exact ⟨rfl, rfl⟩
end Fld
namespace Fld
open PySem PySem.Spec PyProof.Rows L2
theorem with_leaf {G : Prop} {R : Hp → Prop} (Body : Hp → Prop) (h : ∀ H1, R H1 → Body H1) (m : (∀ H1, R H1 → Body H1) → G) : G := m h
/-- a tuple or a list, its items -/
theorem Dv.seqs {K : PySem.W.Frag} {H : Hp} {v : V} {d : PyData} (h : Dv K H v d) (e : (subT (tyD d) "tuple" || subT (tyD d) "list") = true) :
    ∃ a xs ds, v = .ref a ∧ ((SqT K H a xs ∧ d = .tuple ds) ∨ (SqL K H a xs ∧ d = .list ds)) ∧ DvAll K H xs ds := by
  rw [sub_tup, sub_lst] at e
  cases h <;> first | cases e | skip
  · rename_i hs ha
    exact ⟨_, _, _, rfl, .inr ⟨hs, rfl⟩, ha⟩
  · rename_i hs ha
    exact ⟨_, _, _, rfl, .inl ⟨hs, rfl⟩, ha⟩
theorem seq_len {K : PySem.W.Frag} {H : Hp} {a : Addr} {xs : List V} {P Q : Prop} (h : (SqT K H a xs ∧ P) ∨ (SqL K H a xs ∧ Q)) : LenV K (.ref a) H xs.length := by
  rcases h with h | h
  · exact .inr ⟨_, h.1, rfl⟩
  · exact .inl ⟨_, h.1, rfl⟩
theorem ixN_n {n i : Nat} (h : i < n) : ixN n (i : Int) = some i := Evl.ixN_nat h
end Fld
namespace Fld
open PySem PySem.Spec PyProof.Rows L2
section
variable {K : PySem.W.Frag} {p c q D : Addr} {H H' H1 H2 Ha H4 : Hp} {o : HO} {n m k b e : Nat} {S : List Addr} {f : PyData → Prop}
theorem off_hid (h : q ∈ S) : Same (OffS S H) (OffS S (upd H q o)) := fun a u e => by
  obtain ⟨n, e⟩ := off_get e
  have na : a ≠ q := fun z => n (by rw [z]; exact h)
  rw [off_ne n, upd_ne na]
  exact e
/-- a list of drawn data under way at D -/
structure LcI (K : PySem.W.Frag) (p c D : Addr) (S : List Addr) (Ha : Hp) (n k b e : Nat) (f : PyData → Prop) (i : Nat) (ys : List V) (H' : Hp) : Prop where
  drew : Drew p c Ha H' (n + k * i)
  ex : ∃ ds, DvAll K (OffS (D :: S) H') ys ds ∧ ∀ d ∈ ds, Sz b e d ∧ f d
theorem LcI.start (hp : Pen Ha p c n) (hD : Ha D = none) : LcI K p c D S Ha n k b e f 0 [] (upd Ha D (.lst [])) :=
  ⟨⟨(hp.new hD).mono (by omega), But.new hD⟩, [], .nil, fun d hd => nomatch hd⟩
theorem LcI.step {i : Nat} {ys : List V} {v : V} {d : PyData} (I : LcI K p c D S Ha n k b e f i ys H') (hp : Pen Ha p c n) (pS : p ∈ S) (hD : Ha D = none) (g : H' D = some (.lst ys)) (hv : Dv K (OffS (D :: S) H4) v d) (hz : Sz b e d) (hf : f d) (h4 : Drew p c H' H4 (n + k * i + k)) :
    H4 D = some (.lst ys) ∧ LcI K p c D S Ha n k b e f (i + 1) (ys ++ [v]) (upd H4 D (.lst (ys ++ [v]))) := by
  have nD : D ≠ p := fun z => hp.some_ (z ▸ hD)
  have nC : c ≠ D := hp.nec hD
  obtain ⟨ds, hds, ha⟩ := I.ex
  refine ⟨h4.but _ _ nD g, ⟨⟨(h4.pen.upd (fun z => nD z.symm) nC).mono (by rw [Nat.mul_succ]; omega), (I.drew.but.trans h4.but).put hD⟩, ds ++ [d], ?_, ?_⟩⟩
  · exact (((hds.keep (h4.off (List.mem_cons_of_mem _ pS))).app (.cons hv .nil))).keep (off_hid (List.mem_cons_self ..))
  · intro x hx
    rcases List.mem_append.mp hx with h | h
    · exact ha x h
    · rw [List.mem_singleton.mp h]; exact ⟨hz, hf⟩
end
end Fld
/-! an error that an except clause hands to a local: it stays known behind the clause; isinstance of it -/
namespace Fld
open PySem PySem.Spec PyProof.Rows L2
/-- a caught error of the class cls, its own dict d, at a -/
def ExK (cls : Value) (d : Option Addr) (a : Addr) : HO := .ext fun h => ∃ (oe : Obj) (vs : Array Value), h.get? a = some oe ∧ Zc cls d oe ∧ oe.data = .fields vs
section
variable {X : Cx} {pins : List (Addr × Obj)} {σ : L2.St} {H : Hp} {s : Shared} {a : Addr} {oe : Obj} {cls : Value} {d : Option Addr}
theorem adopt (I : Inv X pins σ H s) (ha : s.heap.get? a = some oe) (hz : Zc cls d oe) (hf : ∃ vs, oe.data = .fields vs) (na : H a = none) (n0 : X.s_0.heap.get? a = none) (nL : a ≠ X.env.locals) (np : ∀ p ∈ X.pn ++ pins, p.1 ≠ a) :
    Inv X pins σ (upd H a (ExK cls d a)) s := by
  obtain ⟨vs, hv⟩ := hf
  have nw : ObjOk X.prog X.w (upd H a (ExK cls d a)) s.heap a (ExK cls d a) := ⟨⟨oe, vs, ha, hz, hv⟩, ⟨oe, ha⟩, fun h1 h2 ⟨o, v, q1, q2⟩ k => ⟨o, v, k o q1, q2⟩⟩
  have b := I.base
  have apart : ∀ c o, X.s_0.heap.get? c = some o → c ≠ a := fun c o e z => by rw [z, n0] at e; cases e
  have got : ∀ (c : Addr) (u : HO), H c = some u → upd H a (ExK cls d a) c = some u := fun c u e => by rw [upd_ne (ne_of_none e na)]; exact e
  refine ⟨I.ok, I.os, I.bare, ⟨b.keep, b.slot, fun c o e n hx => ?_, b.there, fun c xs e => got _ _ (b.tups c xs e), fun c o u e => got _ _ (b.frzs c o u e), fun c ps e => ?_⟩, I.loc, I.cell, ?_, fun x c e => ?_, fun p hp => ?_, ?_, I.len⟩
  · rw [upd_ne (apart c o e)]
    exact b.free c o e n hx
  · obtain ⟨m, e2⟩ := b.tbls c ps e
    exact ⟨m, got _ _ e2⟩
  · rw [upd_ne (Ne.symm nL)]
    exact I.free
  · obtain ⟨v, o, e1, e2⟩ := I.cell x c e
    have nc : c ≠ a := fun z => by
      rw [z, ha] at e1
      cases e1
      rw [hv] at e2
      simp at e2
    rw [upd_ne nc]
    exact I.freeC x c e
  · obtain ⟨q1, q2, q3⟩ := I.pin p hp
    exact ⟨q1, by rw [upd_ne (np p hp)]; exact q2, q3⟩
  · exact I.hok.laidN (fun _ _ z => z) na nw
end
/-- what a clause 'except x as n' wishes, whose error stays known -/
def wKeep (K : PySem.W.Frag) (c : Value) (i : Nat) (ts : Addr → Value → Option Addr → TS) (Wout : WX) (D : Ends) : WX := fun cls d σ H =>
  ∃ b, PySem.W.exmOne K cls c = some b ∧ (b = true → ∀ a, H a = none → ts a cls d { nx := fun σ' H' => H' a = none → D.nx (σ'.set i none) (upd H' a (ExK cls d a)), rt := D.rt, bk := fun σ' H' => D.bk (σ'.set i none) H', ct := fun σ' H' => D.ct (σ'.set i none) H' } (σ.set i (some (.ref a))) H) ∧
    (b = false → Wout cls d σ H)
end Fld
namespace Fld
open PySem PySem.Spec PyProof.Rows L2
section
variable {X : Cx} {x n : Str} {c : Value} {i : Nat} {body suite : List Stmt} {b0 : Stmt} {np pos pos' : Pos} {tb : WX → TS} {ts : Addr → Value → Option Addr → TS} {Wout : WX}
theorem keep_catch {pins : List (Addr × Obj)} {s' : Shared} {D : Ends} {u : Value} (okX : X.Ok) (hst : X.stack = X.env :: X.outer) (hfm : X.env.frame = some X.env.locals) (nod : X.N.Nodup) (hix : X.N[i]? = some n) (lcl : X.env.kindOf n = some .local) (nam : Names X x c) (hex : X.ex = []) (tko : Takes X Wout)
    (su : ∀ (a : Addr) (oe : Obj) (cls : Value) (d : Option Addr) (pn : List (Addr × Obj)), Zc cls d oe → (∃ vs, oe.data = .fields vs) → PSs (X.suite a ((a, oe) :: pn)) (b0 :: suite) (ts a cls d))
    {xe : Value → Shared → Prop} (xx : XE (X.tr (X.pn ++ pins) xe) (wKeep X.K c i ts Wout D) u s') :
    wpAny (model X.prog X.w) X.A (noteFrame u X.env) (fun _ s2 => wpAny (model X.prog X.w) X.A (setFlight u none) (fun _ s3 =>
      wpAny (model X.prog X.w) X.A (handleBy u X.env [.ExceptHandler (some (.Name x np)) (some n) (b0 :: suite) pos']) (SP X pins D) X.xe s3) X.xe s2) X.xe s' := by
  obtain ⟨a, B, sI, pin2, σ1, H1, cls, d, rfl, Jt, nbB, upS, skyT, noA, eOs, eAg, bb, exB, whenT, whenF⟩ := xx
  have JJ : Inv X pins σ1 H1 sI := Jt.ofTry okX
  have fr2 : X.A.frames = some (X.env :: X.outer) := by rw [okX.frames, hst]
  have vis2 : Loc X.env.scope n := Or.inl lcl
  have skyX : Sky B (X.env :: X.outer) a (Zc cls d) X.env.locals s'.heap := by rw [← hst]; exact skyT
  refine Sky.land Zc.steady fr2 hfm skyX fun hA flA upA => ?_
  have JA : Inv X pins σ1 H1 { s' with heap := hA } := JJ.landed nbB flA.1 (upS.trans upA) eOs eAg
  obtain ⟨oeA, vsA, atA, zcA, dtA⟩ := flA.there
  have offFr : a ∉ frs (X.env :: X.outer) := fun hm => by
    obtain ⟨_, o', e', hnf⟩ := flA.2.2.1.mem hm
    rw [atA] at e'
    cases e'
    exact hnf _ dtA
  have offL : a ≠ X.env.locals := fun z => offFr (List.mem_filterMap.mpr ⟨X.env, .head _, by rw [hfm, z]⟩)
  have offF : a ∉ X.fs := fun hm => by
    obtain ⟨e, he, q⟩ := List.mem_filterMap.mp hm
    exact offFr (List.mem_filterMap.mpr ⟨e, .tail _ he, q⟩)
  have newA : sI.heap.get? a = none := by
    cases q : sI.heap.get? a with
    | none => rfl
    | some o =>
      have := nbB a o q (by show a ∉ frs X.stack; rw [hst]; exact offFr)
      rw [flA.2.1] at this
      cases this
  have s0A : X.s_0.heap.get? a = none := by
    cases q : X.s_0.heap.get? a with
    | none => rfl
    | some o =>
      obtain ⟨o', e'⟩ := JJ.base.there a o q (by rw [hex]; exact fun z => nomatch z)
      rw [newA] at e'
      cases e'
  have apart : ∀ p ∈ X.pn ++ pins, p.1 ≠ a := fun p hp z => by
    have hq : p ∈ (X.pn ++ pins) ++ pin2 := List.mem_append.mpr (.inl hp)
    have := (Jt.pin p hq).1
    rw [z, newA] at this
    cases this
  have SA := JA.suite atA dtA noA offL offF
  refine wpAny_handleBy_cons (codeAny_handlers_test ?_) (fun q => by cases q)
  have LKa : PySem.W.Looks (model X.prog X.w) hA (typeOf (.ref a)) cls := fun A2 Q2 E2 s2 k2 q2 => wpAny_typeOf_ref (k2 _ _ atA) (by rw [zcA.1]; exact q2)
  have LKm := PySem.W.exm_one (M := model X.prog X.w) JA.kIn LKa exB
  have ask : ∀ {Q2 : Value → Shared → Prop} {E2 : Value → Shared → Prop}, Q2 c { s' with heap := hA } → wpAny (model X.prog X.w) (X.A.mark (some (.ref a))) (eval (.Name x np) X.env) Q2 E2 { s' with heap := hA } := fun {Q2 E2} q2 => by
    rcases nam with ⟨g1, g2, g3 | ⟨g3, g4, g5⟩⟩
    · exact ld_glob (X := X.suite a ((a, oeA) :: (X.pn ++ pins))) SA g1 g3 q2 g2
    · exact ld_blt (X := X.suite a ((a, oeA) :: (X.pn ++ pins))) SA g1 g3 g4 q2 g5 g2
  refine ask (LKm.here ?_)
  cases bb with
  | true =>
    refine codeAny_handlers_suite_as (HandSPX.lands_againZ flA fun hB flB upB => ?_)
    have JB : Inv X pins σ1 H1 { s' with heap := hB } := JJ.landed nbB flB.1 ((upS.trans upA).trans upB) eOs eAg
    obtain ⟨oeB, vsB, atB, zcB, dtB⟩ := flB.there
    have SB := JB.suite atB dtB noA offL offF
    refine store_ok (X := X.suite a ((a, oeB) :: (X.pn ++ pins))) (v := .ref a) SB nod hix vis2 rfl (fun sC SC => ?_) (.inr lcl)
    refine wpAny_mono ((su a oeB cls d (X.pn ++ pins) zcB ⟨_, dtB⟩).run [] sC _ H1 _ SC (whenT rfl a noA)) (fun f sD hD => ?_) (fun _ _ z => z.elim)
    have shut : ∀ {σ6 : L2.St} {H6 : Hp} {Q : Shared → Prop}, Inv (X.suite a ((a, oeB) :: (X.pn ++ pins))) [] σ6 H6 sD → (∀ s7, Inv X pins (σ6.set i none) H6 s7 → Q s7) →
        wpAny (model X.prog X.w) X.A (do bindName X.env n .none; unbindBehindTheSuite X.env n pos') (fun _ s7 => Q s7) X.xe sD := fun {σ6 H6 Q} S6 hq => gone_ok (S6.unsuite okX) nod hix lcl hq
    have shutK : ∀ {σ6 : L2.St} {H6 : Hp} {Q : Shared → Prop}, Inv (X.suite a ((a, oeB) :: (X.pn ++ pins))) [] σ6 H6 sD → (∀ s7, Inv X pins (σ6.set i none) (upd H6 a (ExK cls d a)) s7 → Q s7) →
        wpAny (model X.prog X.w) X.A (do bindName X.env n .none; unbindBehindTheSuite X.env n pos') (fun _ s7 => Q s7) X.xe sD := fun {σ6 H6 Q} S6 hq => by
      obtain ⟨p1, p2, p3, p4, p5⟩ := S6.pin (a, oeB) (.head _)
      exact gone_ok (adopt (S6.unsuite okX) p1 zcB ⟨_, dtB⟩ p2 s0A p3 apart) nod hix lcl hq
    cases f with
    | next =>
      obtain ⟨σ6, H6, S6, q6⟩ := hD
      exact shutK S6 fun s7 J7 => ⟨_, _, J7, q6 (S6.pin (a, oeB) (.head _)).2.1⟩
    | brk =>
      obtain ⟨σ6, H6, S6, q6⟩ := hD
      exact shut S6 fun s7 J7 => ⟨_, _, J7, q6⟩
    | cont =>
      obtain ⟨σ6, H6, S6, q6⟩ := hD
      exact shut S6 fun s7 J7 => ⟨_, _, J7, q6⟩
    | ret u =>
      obtain ⟨v6, σ6, H6, S6, r6, q6⟩ := hD
      exact shut S6 fun s7 J7 => ⟨_, _, _, J7, r6, q6⟩
  | false =>
    show wpAny _ X.A (handleBy (.ref a) X.env []) _ _ _
    refine wpAny_handleBy_nil ?_
    obtain ⟨kk1, kk2, kk3, oe, vs, T, oT, tt, he, hz, hd, h1, hr⟩ := id flA
    unfold PySem.passOn
    refine wpAny_bind (wpAny_field he hd h1 ?_)
    rw [if_neg (show ¬ ((Value.ref T == Value.none) = true) by simp)]
    have goOn : wpAny (model X.prog X.w) X.A (setFlight (.ref a) X.env.frame) (fun _ s4 => wpAny (model X.prog X.w) X.A (throw (.ref a) : Sem Flow) (SP X pins D) X.xe s4) X.xe { s' with heap := hA } := by
      rw [hfm]
      refine HandSPX.setFlight_upZ flA fun hB fB upB => wpAny_throw (tko _ _ ?_)
      exact ⟨a, B, sI, pins, σ1, H1, cls, d, rfl, JJ, nbB, (upS.trans upA).trans upB, .inr (.inr (by rw [hst]; exact fB)), noA, eOs, eAg, whenF rfl⟩
    first
      | exact wpAny_bind (wpAny_pure (wpAny_bind goOn))
      | exact wpAny_bind goOn
theorem ps_try_keep (hst : X.stack = X.env :: X.outer) (hfm : X.env.frame = some X.env.locals) (nod : X.N.Nodup) (hix : X.N[i]? = some n) (lcl : X.env.kindOf n = some .local) (nam : Names X x c) (hex : X.ex = []) (tko : Takes X Wout)
    (bd : ∀ (W : WX) (pn : List (Addr × Obj)) (xe : Value → Shared → Prop), Takes (X.tr pn xe) W → PassesOwn (model X.prog X.w) X.A X.env xe → PSs (X.tr pn xe) body (tb W))
    (su : ∀ (a : Addr) (oe : Obj) (cls : Value) (d : Option Addr) (pn : List (Addr × Obj)), Zc cls d oe → (∃ vs, oe.data = .fields vs) → PSs (X.suite a ((a, oe) :: pn)) (b0 :: suite) (ts a cls d)) :
    PS X (.Try body [.ExceptHandler (some (.Name x np)) (some n) (b0 :: suite) pos'] [] [] pos) (fun D σ H => tb (wKeep X.K c i ts Wout D) D σ H) := by
  refine ⟨fun pins s σ H D I h => wpAny_Try_except ?_⟩
  have okX := I.ok
  have whole := (bd (wKeep X.K c i ts Wout D) (X.pn ++ pins) (fun e s1 => wpAny (model X.prog X.w) X.A (noteFrame e X.env) (fun _ s2 => wpAny (model X.prog X.w) X.A (setFlight e none) (fun _ s3 =>
    wpAny (model X.prog X.w) X.A (handleBy e X.env [.ExceptHandler (some (.Name x np)) (some n) (b0 :: suite) pos']) (SP X pins D) X.xe s3) X.xe s2) X.xe s1) (fun u s' xx => keep_catch okX hst hfm nod hix lcl nam hex tko su xx) PassesOwn.looking).run [] s σ H D (I.toTry _) h
  refine wpAny_mono whole (fun f s1 hsp => ?_) (fun e s1 he => he)
  cases f with
  | next =>
    obtain ⟨σ', H', J', q⟩ := hsp
    exact wpAny_execs_nil ⟨σ', H', J'.ofTry okX, q⟩
  | brk =>
    obtain ⟨σ', H', J', q⟩ := hsp
    exact ⟨σ', H', J'.ofTry okX, q⟩
  | cont =>
    obtain ⟨σ', H', J', q⟩ := hsp
    exact ⟨σ', H', J'.ofTry okX, q⟩
  | ret u =>
    obtain ⟨v, σ', H', J', r, q⟩ := hsp
    exact ⟨v, σ', H', J'.ofTry okX, r, q⟩
end
end Fld
namespace Fld
open PySem PySem.Spec PyProof.Rows L2
/-- isinstance(x, C), C of one's own: of a plain caught error; of what has a built-in type -/
def rIsX (K : PySem.W.Frag) : List V → Hp → VK → Prop := fun xs H Q => ∃ (a D : Addr) (c : V) (cv : Value) (b : Bool), xs = [.ref a, c] ∧ H a = some (ExK (.ref D) none a) ∧ ExcC K D ∧ ClsV c cv ∧ PySem.W.kitOne K (.ref D) cv = some b ∧ Q (.bl b) H
theorem call_isX {X : Cx} : CallR X (.builtin "isinstance") (rIsX X.K) := by
  intro pins s σ H xs us Q I r h
  obtain ⟨a, D, c, cv, b, rfl, ha, C, hcv, e, q⟩ := h
  obtain ⟨u1, u2, rfl, r1, r2⟩ := vals2 r
  cases (show u1 = Value.ref a from r1)
  have ec := hcv.eq r2
  subst ec
  obtain ⟨⟨oe, vs, hget, hz, hv⟩, _⟩ := I.hok a _ ha
  have J : PySem.W.InstAt s.heap a oe D none := by
    obtain ⟨oc, od, oda, osl⟩ := oe
    obtain ⟨h1, h2⟩ := hz
    dsimp only at h1 h2 hv
    subst h1 h2 hv
    exact ⟨hget, rfl, rfl, True.intro⟩
  exact PySem.W.kia_one (PySem.W.handS_kitx_exc C.hg C.hk C.hs C.hd C.ha C.hn C.ht C.hm) I.kIn J e (fun z => nomatch z) fun tk => ⟨.bl b, H, I.kept (t' := tk) fun _ _ z => z, rfl, q⟩
def rIsU (K : PySem.W.Frag) : List V → Hp → VK → Prop := fun xs H Q => rIsi K xs H Q ∨ rIsX K xs H Q
theorem call_isU {X : Cx} : CallR X (.builtin "isinstance") (rIsU X.K) := by
  intro pins s σ H xs us Q I r h
  rcases h with h | h
  · exact call_isi pins s σ H xs us Q I r h
  · exact call_isX pins s σ H xs us Q I r h
/-- an own class in isinstance -/
theorem kit_own {K : PySem.W.Frag} {t : Value} {C : Addr} {b : Bool} (hd : PySem.W.hasDictIn K C = true) (ht : PySem.W.typeIn K (.ref C) = some (.type "type")) (hs : PySem.W.subIn K t (.ref C) = some b) (hb : b = false → (t == .ref C) = false) : PySem.W.kitOne K t (.ref C) = some b := by
  obtain ⟨cd, hc, _⟩ := PySem.W.any_some hd
  have e2 : ((PySem.W.clsIn K C).isSome && PySem.W.typeIn K (.ref C) == some (.type "type")) = true := by rw [hc, ht]; rfl
  have e3 : PySem.W.kitCls K t (.ref C) = some b := by
    show (if ((PySem.W.clsIn K C).isSome && PySem.W.typeIn K (.ref C) == some (.type "type")) = true then PySem.W.subIn K t (.ref C) else none) = some b
    rw [if_pos e2]; exact hs
  unfold PySem.W.kitOne
  cases c : (t == Value.ref C) with
  | true =>
    cases b with
    | true => rw [if_pos rfl]
    | false => rw [hb rfl] at c; cases c
  | false => rw [if_neg (by decide)]; exact e3
/-- what isinstance of an error of one's own asks of its class -/
structure IsC (K : PySem.W.Frag) (C : Addr) : Prop where
  x : ExcC K C
  t : PySem.W.typeIn K (.ref C) = some (.type "type")
  n : PySem.W.subIn K (.type "NoneType") (.ref C) = some false
theorem IsC.none {K : PySem.W.Frag} {C : Addr} (h : IsC K C) : PySem.W.kitOne K (.type "NoneType") (.ref C) = some false := kit_own h.x.hd h.t h.n fun _ => rfl
theorem IsC.self {K : PySem.W.Frag} {C : Addr} (h : IsC K C) (s : PySem.W.subIn K (.ref C) (.ref C) = some true) : PySem.W.kitOne K (.ref C) (.ref C) = some true := kit_own h.x.hd h.t s fun z => nomatch z
end Fld
namespace Fld
open PySem PySem.Spec PyProof.Rows L2
theorem ixK {r : PySem.W.Frag → R2} {K : PySem.W.Frag} {X : Cx} (h : IxR X (r X.K)) (e : X.K = K := by rfl) : IxR X (r K) := e ▸ h
theorem opK {r : PySem.W.Frag → R2} {K : PySem.W.Frag} {X : Cx} {o : Value → Value → Sem Value} (h : OpR X o (r X.K)) (e : X.K = K := by rfl) : OpR X o (r K) := e ▸ h
theorem clK {r : PySem.W.Frag → List V → Hp → VK → Prop} {K : PySem.W.Frag} {X : Cx} {f : Value} (h : CallR X f (r X.K)) (e : X.K = K := by rfl) : CallR X f (r K) := e ▸ h
end Fld
/-! == of any value with a text, in among texts, a tuple with (), a tuple turned about -/
namespace Fld
open PySem PySem.Spec PyProof.Rows L2
section
variable {A : Around} {s : Shared} {l : Addr} {o : Obj} {es : Array DictEntry} {n : Nat}
theorem dict_declines {P : Program} {w : World} {E : Value → Shared → Prop} {z : Str} {u : Tok} (hT : s.TypeIs (.ref l) "dict") (Q : Value → Shared → Prop) (q : Q .notImplemented s) : wpAny (model P w) A (call (.builtin "dict.__eq__") [.ref l, .str z u]) Q E s := by
  refine wpAny_call_entry PySem.F.slot_dict_eq hT PySem.F.entry_dict_eq ?_ (PySem.F.args_dict_eq_2 _ _)
  show wpAny _ _ (Builtin.Dict.dictSlotArgs "__eq__" ⟨[.ref l, .str z u], []⟩ >>= _) _ _ s
  refine wpAny_bind ?_
  unfold Builtin.Dict.dictSlotArgs
  refine wpAny_bind (wpAny_notOrdered_dict hT ?_)
  show wpAny _ _ (pure (Value.ref l, Value.str z u)) _ _ s
  refine wpAny_pure ?_
  refine wpAny_bind (wpAny_isInstance (T := "str") (typeIs_str s z u) PySem.F.sub_str_dict ?_)
  simp only [Bool.not_false, if_true]
  exact wpAny_bind (wpAny_rule (wpAny_bind (wpAny_pure (wpAny_pure ⟨_, rfl, q⟩))))
end
end Fld
namespace Fld
open PySem PySem.Spec PyProof.Rows L2
open PySem.MeetsSeq
theorem str_dict_declines (b : Str) (u : Tok) (l : Addr) (c : Value) (es : Array DictEntry) (ep : Nat) (dd : Option Addr) (sl : Array (Option Value)) :
    Meets (Builtin.«str.__eq__» ⟨[.str b u, .ref l], []⟩) (fun _ R s => s.heap.get? l = some { cls := c, dict := dd, data := .dict es ep, slots := sl } ∧ R (.ok (.ret .notImplemented)) s) := .of_wp fun P w A R s h => by
  obtain ⟨hp, g, d, tk, os⟩ := s
  obtain ⟨hl, h⟩ := h
  wp_walk using PySem.AutoSeq1.wpAny_loadPart' hl, wpAny_load hl
  exact ⟨_, rfl, h⟩
section
variable {A : Around} {s : Shared} {l : Addr} {o : Obj}
theorem rc_dict_str {es : Array DictEntry} {ep : Nat} (z : Str) (u : Tok) (ho : s.heap.get? l = some o) (ex : o.ExactDict) (hd : o.data = .dict es ep) (hu : A.units < cLine) : SeqAt.RcAt A s (.ref l) (.str z u) false := fun P w E Q h => by
  obtain ⟨cls, dd, data, sl⟩ := o
  obtain ⟨hc, _, _⟩ := ex
  simp only at hc hd
  subst hc hd
  exact SeqAt.rc_eq_decline_or (k := false) ⟨_, ho, rfl⟩ (typeIs_str s z u) (by decide) PySem.F.sub_str_dict PySem.F.slot_dict_eq PySem.F.slot_str_eq_refl
    (fun Q' hq => dict_declines ⟨_, ho, rfl⟩ Q' hq)
    (fun _ hq => call_meets PySem.F.slot_str_eq_refl (typeIs_str s z u) PySem.F.entry_str_eq (PySem.F.args_str_eq_2 _ _) (str_dict_declines z u l _ es ep dd sl) ⟨ho, hq⟩)
    (fun _ hq => wpAny_of_eq (rfl : isSame (.ref l) (.str z u) = pure false) hq) (.inr hu) h
theorem rc_str_dict {es : Array DictEntry} {ep : Nat} (z : Str) (u : Tok) (ho : s.heap.get? l = some o) (ex : o.ExactDict) (hd : o.data = .dict es ep) (hu : A.units < cLine) : SeqAt.RcAt A s (.str z u) (.ref l) false := fun P w E Q h => by
  obtain ⟨cls, dd, data, sl⟩ := o
  obtain ⟨hc, _, _⟩ := ex
  simp only at hc hd
  subst hc hd
  exact SeqAt.rc_eq_decline_or (k := false) (typeIs_str s z u) ⟨_, ho, rfl⟩ (by decide) PySem.F.sub_dict_str PySem.F.slot_str_eq PySem.F.slot_dict_eq_refl
    (fun _ hq => call_meets PySem.F.slot_str_eq (typeIs_str s z u) PySem.F.entry_str_eq (PySem.F.args_str_eq_2 _ _) (str_dict_declines z u l _ es ep dd sl) ⟨ho, hq⟩)
    (fun Q' hq => dict_declines ⟨_, ho, rfl⟩ Q' hq)
    (fun _ hq => wpAny_of_eq (rfl : isSame (.str z u) (.ref l) = pure false) hq) (.inr hu) h
theorem eq_str_dict {es : Array DictEntry} {ep : Nat} (z : Str) (u : Tok) (ho : s.heap.get? l = some o) (ex : o.ExactDict) (hd : o.data = .dict es ep) (hu : A.units < cLine) : SeqAt.EqAt A s (.str z u) (.ref l) false := fun P w E Q h => by
  unfold eqBool
  refine wpAny_holding (wpAny_ite_split (fun hab => absurd (eq_of_beq hab) nofun) (fun _ => ?_))
  exact wpAny_bind (rc_str_dict z u ho ex hd hu P w E _ (wpAny_truthy_bool h))
end
def isS : PyData → Str → Bool
  | .str x, z => decide (x = z)
  | _, _ => false
section
variable {X : Cx} {pins : List (Addr × Obj)} {σ : L2.St} {H : Hp} {s : Shared}
theorem beqStr (a b : Str) : (a == b) = decide (a = b) := by
  rw [Bool.eq_iff_iff, beq_iff_eq, decide_eq_true_iff]
theorem dv_rc {A : Around} (I : Inv X pins σ H s) (hu : A.units + 64 < cLine) {v : V} {u : Value} {d : PyData} (h : Dv X.K H v d) (r : RelV v u) (z : Str) (t : Tok) : SeqAt.RcAt A s u (.str z t) (isS d z) := by
  have hu1 : A.units < cLine := by omega
  cases h with
  | non => cases r; exact SeqAt.RcAt.none_str z t
  | bl b => cases r; exact SeqAt.RcAt.bool_str b z t
  | int i => obtain ⟨t', rfl⟩ := r; exact SeqAt.RcAt.int_str i t' z t
  | str x =>
    obtain ⟨t', rfl⟩ := r
    have := SeqAt.RcAt.str_str (A := A) (s := s) x t' z t
    rw [beqStr] at this
    exact this
  | lst hs ha =>
    cases r
    obtain ⟨its, rv, pl, _⟩ := I.list hs
    exact SeqAt.RcAt.list_str z t pl.isList hu1
  | tup hs ha =>
    cases r
    obtain ⟨its, rv, pl, _⟩ := I.tuple hs
    exact SeqAt.RcAt.tuple_str z t pl hu1
  | dic hs he ha =>
    cases r
    obtain ⟨_, hy, vs, kv, ⟨o, es, ep, ho, ex, hd, _, pr, _⟩⟩ := dk_of I.hok hs
    exact rc_dict_str z t ho ex hd hu1
theorem dv_eq {A : Around} (I : Inv X pins σ H s) (hu : A.units + 64 < cLine) {v : V} {u : Value} {d : PyData} (h : Dv X.K H v d) (r : RelV v u) (z : Str) (t : Tok) : SeqAt.EqAt A s (.str z t) u (isS d z) := by
  have hu1 : A.units < cLine := by omega
  cases h with
  | non => cases r; exact SeqAt.EqAt.str_none z t
  | bl b => cases r; exact SeqAt.EqAt.str_bool z t b
  | int i => obtain ⟨t', rfl⟩ := r; exact SeqAt.EqAt.str_int z t i t'
  | str x =>
    obtain ⟨t', rfl⟩ := r
    have := SeqAt.EqAt.str_str (A := A) (s := s) z t x t'
    rw [beqStr] at this
    have e : isS (.str x) z = decide (z = x) := decide_eq_decide.mpr ⟨Eq.symm, Eq.symm⟩
    rw [e]
    exact this
  | lst hs ha =>
    cases r
    obtain ⟨its, rv, pl, _⟩ := I.list hs
    exact SeqAt.EqAt.str_list z t pl.isList hu1
  | tup hs ha =>
    cases r
    obtain ⟨its, rv, pl, _⟩ := I.tuple hs
    exact SeqAt.EqAt.str_tuple z t pl hu1
  | dic hs he ha =>
    cases r
    obtain ⟨_, hy, vs, kv, ⟨o, es, ep, ho, ex, hd, _, pr, _⟩⟩ := dk_of I.hok hs
    exact eq_str_dict z t ho ex hd hu1
end
def rEqV (K : PySem.W.Frag) : R2 := fun x y H Q => ∃ d z, Dv K H x d ∧ y = .str z ∧ Q (.bl (isS d z)) H
theorem op_eqV {X : Cx} (hu : X.A.units + 64 < cLine) : OpR X (compareOp .Eq) (rEqV X.K) := by
  intro pins s σ H x y v u Q I rx ry h
  obtain ⟨d, z, hd, rfl, q⟩ := h
  obtain ⟨t, rfl⟩ := ry
  exact dv_rc I hu hd rx z t X.prog X.w _ _ ⟨.bl _, H, I, rfl, q⟩
/-- x in a tuple of texts -/
def rInV (K : PySem.W.Frag) : R2 := fun x y H Q => ∃ (d : PyData) (p : Addr) (zs : List Str), Dv K H x d ∧ y = .ref p ∧ SqT K H p (zs.map V.str) ∧ Q (.bl (zs.any fun z => isS d z)) H
theorem strs_any {d : PyData} : ∀ {zs : List Str} {us : List Value}, Vals (zs.map V.str) us → us.any (fun u => match u with | .str z _ => isS d z | _ => false) = zs.any fun z => isS d z
  | [], _, h => by cases h; rfl
  | z :: zs, _, h => by
    cases h with
    | cons r t =>
      obtain ⟨k, rfl⟩ := r
      rw [List.any_cons, List.any_cons, strs_any t]
theorem strs_mem : ∀ {zs : List Str} {us : List Value}, Vals (zs.map V.str) us → ∀ u ∈ us, ∃ z t, u = .str z t
  | [], _, h, u, hu => by cases h; cases hu
  | z :: zs, _, h, u, hu => by
    cases h with
    | cons r t =>
      rcases List.mem_cons.mp hu with rfl | hu
      · obtain ⟨k, rfl⟩ := r; exact ⟨z, k, rfl⟩
      · exact strs_mem t u hu
theorem op_inV {X : Cx} (hu : X.A.units + 65 < cLine) : OpR X (compareOp .In) (rInV X.K) := by
  intro pins s σ H x y v u Q I rx ry h
  obtain ⟨d, p, zs, hd, rfl, hp, q⟩ := h
  cases ry
  obtain ⟨its, r, pl, hz⟩ := I.tuple hp
  refine SeqAt.in_tupleAt (fun u => match u with | .str z _ => isS d z | _ => false) pl (fun w hw => ?_) ⟨.bl _, H, I, rfl, ?_⟩
  · obtain ⟨z, t, rfl⟩ := strs_mem r w (by simpa using hw)
    exact dv_eq I (by show X.A.units + 1 + 64 < cLine; omega) hd rx z t
  · rw [show its.toArray.any (fun u => match u with | .str z _ => isS d z | _ => false) = its.any (fun u => match u with | .str z _ => isS d z | _ => false) by simp, strs_any r]
    exact q
/-- a tuple and the empty one -/
def rEqE (K : PySem.W.Frag) : R2 := fun x y H Q => ∃ a b xs, x = .ref a ∧ y = .ref b ∧ SqT K H a xs ∧ SqT K H b [] ∧ Q (.bl xs.isEmpty) H
theorem op_eqE {X : Cx} (hu : X.A.units + 64 < cLine) : OpR X (compareOp .Eq) (rEqE X.K) := by
  intro pins s σ H x y v u Q I rx ry h
  obtain ⟨a, b, xs, rfl, rfl, ha, hb, q⟩ := h
  cases rx
  cases ry
  obtain ⟨its, r1, p1, _⟩ := I.tuple ha
  obtain ⟨its2, r2, p2, _⟩ := I.tuple hb
  cases r2
  have hl := r1.length
  refine SeqAt.RcAt.tuples (A := X.A) (e := fun _ => true) p1 p2 (by omega) (fun j _ h2 => absurd h2 (by simp)) X.prog X.w _ _ ⟨.bl xs.isEmpty, H, I, ?_, q⟩
  show Value.bool _ = Value.bool _
  congr 1
  cases xs with
  | nil => cases r1; rfl
  | cons _ _ => cases r1; simp
end Fld
/-! t[::-1] -/
namespace Fld
open PySem PySem.Spec PyProof.Rows L2
section
variable {prog : Program} {w : World} {A : Around} {E : Value → Shared → Prop} {s : Shared}
theorem adj_back (n : Nat) : Builtin.Slice.sliceAdjust none none (-1) (n : Int) = ((n : Int) - 1, -1) := by
  unfold Builtin.Slice.sliceAdjust
  simp
theorem places_back (n : Nat) : Builtin.Slice.slicePlaces ((n : Int) - 1) (-1) (-1) = n := by
  unfold Builtin.Slice.slicePlaces
  simp
  try omega
theorem applied_back {sl : Addr} {t : Tok} {n : Nat} {Q : Int × Int × Nat → Shared → Prop} (hs : s.heap.IsSliceOf sl .none .none (.int (-1) t))
    (h : Q ((n : Int) - 1, -1, n) s) : wpAny (model prog w) A (Builtin.Slice.sliceApplied (.ref sl) (pure (n : Int))) Q E s := by
  obtain ⟨os, hos, hcs, hds⟩ := id hs
  unfold Builtin.Slice.sliceApplied Builtin.Slice.sliceFields
  refine wpAny_bind (wpAny_bind (wpAny_field hos hds (x := .none) rfl (wpAny_bind (wpAny_field hos hds (x := .none) rfl (wpAny_bind (wpAny_field hos hds (x := .int (-1) t) rfl (wpAny_pure ?_)))))))
  refine wpAny_bind (HT.slicePart_ (.int (-1) t) ?_)
  show wpAny _ _ (if ((-1 : Int) == 0) = true then _ else _) _ _ s
  rw [if_neg (by decide)]
  refine wpAny_bind (HT.slicePart_ .none (wpAny_bind (HT.slicePart_ .none (wpAny_bind (wpAny_pure ?_)))))
  show wpAny _ _ (match Builtin.Slice.sliceAdjust none none (-1) (n : Int) with | (lo, hi) => pure (lo, (-1 : Int), Builtin.Slice.slicePlaces lo hi (-1))) _ _ s
  rw [adj_back n]
  show wpAny _ _ (pure ((n : Int) - 1, (-1 : Int), Builtin.Slice.slicePlaces ((n : Int) - 1) (-1) (-1))) _ _ s
  rw [places_back]
  exact wpAny_pure h
end
end Fld
namespace Fld
open PySem PySem.Spec PyProof.Rows L2
section
variable {prog : Program} {w : World} {A : Around} {E : Value → Shared → Prop} {s : Shared}
theorem filt_congr {α β : Type} {f g : α → Option β} : ∀ {l : List α}, (∀ x ∈ l, f x = g x) → l.filterMap f = l.filterMap g
  | [], _ => rfl
  | x :: l, h => by
    rw [List.filterMap_cons, List.filterMap_cons, h x (List.mem_cons_self ..), filt_congr fun y hy => h y (List.mem_cons_of_mem _ hy)]
theorem pick_back (xs : List Value) : ((List.range xs.length).filterMap fun (m : Nat) => xs.toArray[(((xs.length : Int) - 1) + (m : Int) * (-1)).toNat]?).toArray = xs.reverse.toArray := by
  congr 1
  have e : ∀ m ∈ List.range xs.length, xs.toArray[(((xs.length : Int) - 1) + (m : Int) * (-1)).toNat]? = some (xs.reverse.getD m .none) := by
    intro m hm
    have hm' := List.mem_range.mp hm
    have e1 : (((xs.length : Int) - 1) + (m : Int) * (-1)).toNat = xs.length - 1 - m := by omega
    rw [e1, List.getElem?_toArray, List.getD_eq_getElem?_getD, List.getElem?_reverse hm', List.getElem?_eq_getElem (by omega)]
    rfl
  rw [filt_congr e]
  have e2 : (List.range xs.length).filterMap (fun m => some (xs.reverse.getD m Value.none)) = (List.range xs.length).map fun m => xs.reverse.getD m Value.none := by
    rw [← List.filterMap_eq_map]; rfl
  rw [e2]
  have := range_map xs.reverse (fun c => c) Value.none
  rw [List.length_reverse, List.map_id'] at this
  exact this
theorem getItem_back {t sl : Addr} {xs : List Value} {tk : Tok} {Q : Value → Shared → Prop} (ht : IsTup s.heap t xs.toArray) (hs : s.heap.IsSliceOf sl .none .none (.int (-1) tk))
    (h : Q (.ref s.heap.objs.size) { s with heap := s.heap.push { cls := .type "tuple", data := .seq xs.reverse.toArray } }) (hsz : xs.length ≤ sizeLine) : wpAny (model prog w) A (getItem (.ref t) (.ref sl)) Q E s := by
  have fits : sizeOk (.seq xs.reverse.toArray) := by
    show xs.reverse.toArray.size ≤ sizeLine
    rw [List.size_toArray, List.length_reverse]
    exact hsz
  obtain ⟨os, hos, hcs, hds⟩ := id hs
  have hTs : s.TypeIs (.ref sl) "slice" := ⟨os, hos, hcs⟩
  unfold getItem
  try with_reducible refine wpAny_holding ?_
  first | refine wpAny_bind (wpAny_pure ?_) | skip
  refine wpAny_bind (wpAny_sequenceKey ht.typeIs (by decide) ?_)
  refine wpAny_bind (wpAny_callSpecial?_slot (name := Str.ofString "__getitem__") ht.typeIs PyProof.Rows.slot_tuple_getitem
    (wpAny_call_entry PyProof.Rows.slot_tuple_getitem ht.typeIs entry_tuple_getitem ?_ (args_tuple_getitem _ _)))
  show wpAny _ _ (Builtin.Tuple.tupleItemsOf (.ref t) >>= _) _ _ s
  refine wpAny_bind (tupleItemsOf_ ht ?_)
  refine wpAny_bind (wpAny_typeOf hTs ?_)
  rw [if_pos (by decide)]
  rw [List.size_toArray]
  refine wpAny_bind (applied_back hs ?_)
  have no : ¬ ((((xs.length : Int) - 1) == 0 && (-1 : Int) == 1 && xs.length == xs.length) = true) := by
    rw [show ((-1 : Int) == 1) = false from rfl, Bool.and_false, Bool.false_and]
    exact Bool.false_ne_true
  show wpAny _ _ (if ((((xs.length : Int) - 1) == 0 && (-1 : Int) == 1 && xs.length == xs.length) = true) then _ else _) _ _ s
  rw [if_neg no, pick_back]
  first
    | exact wpAny_bind (m := Builtin.Tuple.tupleExact _) (wpAny_newObj_type (wpAny_pure ⟨_, rfl, wpAny_pure h⟩) fits)
    | exact wpAny_bind (m := Builtin.Tuple.tupleExact _) (wpAny_newObj_type (wpAny_bind (wpAny_pure (wpAny_pure ⟨_, rfl, wpAny_pure h⟩))) fits)
    | exact wpAny_bind (wpAny_bind (m := Builtin.Tuple.tupleExact _) (wpAny_newObj_type (wpAny_pure (wpAny_pure ⟨_, rfl, wpAny_pure h⟩)) fits))
    | exact wpAny_bind (wpAny_bind (m := Builtin.Tuple.tupleExact _) (wpAny_newObj_type (wpAny_pure ⟨_, rfl, wpAny_pure h⟩) fits))
end
def tRevT (K : PySem.W.Frag) (te : TE) : TE := fun σ H Q => te σ H fun x H1 => ∃ a xs, x = .ref a ∧ SqT K H1 a xs ∧ ∀ p, H1 p = none → Q (.ref p) (upd H1 p (.tup xs.reverse))
theorem pe_revT {X : Cx} {e : Expr} {te : TE} {k : Nat} {p1 p2 p3 pos : Pos} (he : PE X e te) : PE X (.Subscript e (.Slice none none (some (.UnaryOp .USub (.Constant (.int 1) k p1) p2)) p3) pos) (tRevT X.K te) := by
  refine ⟨fun pins s σ H Q I h => Subscript_ (thn (he.run pins s σ H _ I h) fun v s1 ⟨x, H1, I1, r1, q1⟩ => ?_)⟩
  obtain ⟨a, xs, ex, hx, q⟩ := q1
  subst ex
  cases r1
  have third : PO X (some (.UnaryOp .USub (.Constant (.int 1) k p1) p2)) (tPart (tUn (rU fun i => .int (-i)) (tC (.int 1)))) := po_some (pe_un un_neg pe_int)
  refine wpAny_Slice (thn (po_none.run pins s1 σ H1 (fun o H2 => o = none ∧ H2 = H1) I1 ⟨rfl, rfl⟩) fun vl s2 ⟨l, H2, I2, pl, el, e2⟩ => ?_)
  subst el e2
  refine thn (po_none.run pins s2 σ H2 (fun o H3 => o = none ∧ H3 = H2) I2 ⟨rfl, rfl⟩) fun vu s3 ⟨m, H3, I3, pu, em, e3⟩ => ?_
  subst em e3
  refine thn (third.run pins s3 σ H3 (fun o H4 => o = some (-1) ∧ H4 = H3) I3 ⟨1, rfl, -1, rfl, rfl, rfl⟩) fun vs s4 ⟨o, H4, I4, ps, eo, e4⟩ => ?_
  subst eo e4
  cases pl
  cases pu
  obtain ⟨tk, rfl⟩ : ∃ tk, vs = .int (-1) tk := by cases ps with | int _ tk => exact ⟨tk, rfl⟩
  have I5 : Inv X pins σ H4 { s4 with heap := s4.heap.push { cls := .type "slice", data := .fields #[.none, .none, .int (-1) tk] } } := I4.kept (t' := s4.toks) fun b ob q => Heap.get?_push_of_some _ q
  obtain ⟨its, r, ht, hz⟩ := I5.tuple hx
  have hlen := r.length
  show wpAny (model X.prog X.w) X.A (subscriptTail e (.Slice none none (some (.UnaryOp .USub (.Constant (.int 1) k p1) p2)) p3) (.ref a) (.ref s4.heap.objs.size)) (EP X pins σ Q) X.xe { s4 with heap := s4.heap.push { cls := .type "slice", data := .fields #[.none, .none, .int (-1) tk] } }
  refine tail_any (ops := [.ref a, .ref s4.heap.objs.size]) ht.typeIs PyProof.Rows.slot_tuple_getitem.lookup ?_ (by with_unfolding_all rfl)
  refine getItem_back ht (Heap.IsSliceOf.new _ .none .none (.int (-1) tk)) ?_ (by omega)
  refine ⟨.ref _, _, I5.laid (t' := s4.toks) (o := .tup xs.reverse) (fun b ob q => Heap.get?_push_of_some _ q) (Nat.le_refl _) ?_, rfl, q _ (I5.hok.fresh (Nat.le_refl _))⟩
  exact ⟨by rw [List.length_reverse]; exact hz, _, r.reverse, IsTup.new _ _⟩
end Fld
/-! Lines and blocks: their values, their octets, what is read of octets. -/
namespace Fld
open PySem PySem.Spec PyProof.Rows L2
inductive Ln where
  | fix1 (n : Nat) | fix2 (n : Nat) (x : Str) | ent1 (n : Nat) | ent2 (n : Nat) (x : Str) | out (y x : Str)
def Ln.vs : Ln → List V
  | .fix1 n => [.str "fixed", .int n]
  | .fix2 n x => [.str "fixed", .int n, .str x]
  | .ent1 n => [.str "entry", .int n]
  | .ent2 n x => [.str "entry", .int n, .str x]
  | .out y x => [.str "out", .str y, .str x]
def Ln.Ok (req : Nat) : Ln → Prop
  | .fix1 n => n ≤ 9999
  | .fix2 n x => n ≤ 9999 ∧ txt (.str x) 0 40 = true
  | .ent1 n => n < req
  | .ent2 n x => n < req ∧ txt (.str x) 0 40 = true
  | .out y x => txt (.str y) 1 20 = true ∧ txt (.str x) 0 40 = true
def wholeOct (base n : Nat) : List Int := if n < base then numOct (base - n - 1) 3 128 else numOct (n - base) 2 16
def namedOct (base n : Nat) : List Int := if n < base then numOct (base - n - 1) 3 64 else numOct (n - base) 2 0
def Ln.oct (base : Nat) : Ln → List Int
  | .fix1 n => numOct n 6 192
  | .fix2 n x => numOct n 4 96 ++ strOct x 7 0
  | .ent1 n => wholeOct base n
  | .ent2 n x => namedOct base n ++ strOct x 7 0
  | .out y x => strOct y 4 32 ++ strOct x 7 0
def LnV (K : PySem.W.Frag) (H : Hp) (v : V) (l : Ln) : Prop := ∃ a, v = .ref a ∧ SqT K H a l.vs
structure Blk where
  req : Nat
  base : Nat
  ls : List Ln
structure Blk.Ok (b : Blk) : Prop where
  req_ : b.req ≤ 9999
  base_ : b.base ≤ b.req
  len_ : b.ls.length ≤ 16
  lns_ : ∀ l : Ln, l ∈ b.ls → l.Ok b.req
def lnsOct (base : Nat) (ls : List Ln) : List Int := (ls.map (Ln.oct base)).flatten
def Blk.oct (b : Blk) : List Int := (numOct b.req 8 0 ++ numOct (b.req - b.base) 8 0) ++ lnsOct b.base b.ls
inductive LnsV (K : PySem.W.Frag) (H : Hp) : List V → List Ln → Prop
  | nil : LnsV K H [] []
  | cons {x : V} {xs : List V} {l : Ln} {ls : List Ln} : LnV K H x l → LnsV K H xs ls → LnsV K H (x :: xs) (l :: ls)
def BlkV (K : PySem.W.Frag) (H : Hp) (v : V) (b : Blk) : Prop := ∃ (a t : Addr) (xs : List V), v = .ref a ∧ SqT K H a [.int b.req, .int b.base, .ref t] ∧ SqT K H t xs ∧ LnsV K H xs b.ls
theorem LnV.keep {K : PySem.W.Frag} {H H' : Hp} {v : V} {l : Ln} (s : Same H H') (h : LnV K H v l) : LnV K H' v l := let ⟨a, e, h⟩ := h; ⟨a, e, s.tup h⟩
theorem LnsV.keep {K : PySem.W.Frag} {H H' : Hp} (s : Same H H') : ∀ {xs : List V} {ls : List Ln}, LnsV K H xs ls → LnsV K H' xs ls
  | _, _, .nil => .nil
  | _, _, .cons h t => .cons (h.keep s) (t.keep s)
theorem BlkV.keep {K : PySem.W.Frag} {H H' : Hp} {v : V} {b : Blk} (s : Same H H') (h : BlkV K H v b) : BlkV K H' v b := let ⟨a, t, xs, e, h1, h2, h3⟩ := h; ⟨a, t, xs, e, s.tup h1, s.tup h2, h3.keep s⟩
theorem LnsV.len {K : PySem.W.Frag} {H : Hp} : ∀ {xs : List V} {ls : List Ln}, LnsV K H xs ls → xs.length = ls.length
  | _, _, .nil => rfl
  | _, _, .cons _ t => by rw [List.length_cons, List.length_cons, t.len]
theorem LnsV.at_ {K : PySem.W.Frag} {H : Hp} : ∀ {xs : List V} {ls : List Ln} {i : Nat} {x : V}, LnsV K H xs ls → xs[i]? = some x → ∃ l, ls[i]? = some l ∧ LnV K H x l
  | _, _, _, _, .nil, e => by simp at e
  | _, _, 0, _, .cons h _, e => by simp at e; subst e; exact ⟨_, rfl, h⟩
  | _, _, i + 1, x, .cons _ t, e => by
    obtain ⟨l, h1, h2⟩ := t.at_ (i := i) (x := x) (by simpa using e)
    exact ⟨l, by simpa using h1, h2⟩
def sp_is_line (K : PySem.W.Frag) : Sp := fun vs H Q _ => ∃ (v : V) (l : Ln) (r : Nat), vs = [v, .int r] ∧ LnV K H v l ∧ l.Ok r ∧ ∀ H', Same H H' → Q (.bl true) H'
def sp_is_block (K : PySem.W.Frag) : Sp := fun vs H Q _ => ∃ (v : V) (b : Blk), vs = [v] ∧ BlkV K H v b ∧ b.Ok ∧ ∀ H', Same H H' → Q (.bl true) H'
def sp_line_octets (K : PySem.W.Frag) : Sp := fun vs H Q _ => ∃ (v : V) (l : Ln) (base r : Nat), vs = [v, .int base] ∧ LnV K H v l ∧ l.Ok r ∧ r ≤ 9999 ∧ base ≤ r ∧ RetInts (l.oct base) H Q
def sp_write_block (K : PySem.W.Frag) : Sp := fun vs H Q _ => ∃ (v : V) (b : Blk), vs = [v] ∧ BlkV K H v b ∧ b.Ok ∧ RetInts b.oct H Q
def sp_whole_octets (named : Bool) : Sp := fun vs H Q _ => ∃ (c : Str) (n base : Nat), vs = [.str c, .int n, .int base] ∧ n ≤ 9999 ∧ base ≤ 9999 ∧
  ((c = "fixed" ∧ RetInts (if named then numOct n 4 96 else numOct n 6 192) H Q) ∨ (c = "entry" ∧ RetInts (if named then namedOct base n else wholeOct base n) H Q))
theorem wholeOct_len {base n : Nat} (h1 : base ≤ 9999) (h2 : n ≤ 9999) : (wholeOct base n).length ≤ 10001 := by
  unfold wholeOct
  by_cases h : n < base
  · rw [if_pos h]; have := numOct_len (base - n - 1) 3 128; omega
  · rw [if_neg h]; have := numOct_len (n - base) 2 16; omega
theorem namedOct_len {base n : Nat} (h1 : base ≤ 9999) (h2 : n ≤ 9999) : (namedOct base n).length ≤ 10001 := by
  unfold namedOct
  by_cases h : n < base
  · rw [if_pos h]; have := numOct_len (base - n - 1) 3 64; omega
  · rw [if_neg h]; have := numOct_len (n - base) 2 0; omega
theorem ln_len {base r : Nat} {l : Ln} (ok : l.Ok r) (hr : r ≤ 9999) (hb : base ≤ r) : (l.oct base).length ≤ 10101 := by
  cases l with
  | fix1 n => have h : n ≤ 9999 := ok; have := numOct_len n 6 192; show (numOct n 6 192).length ≤ _; omega
  | fix2 n x => have h := ok.1; have := numOct_len n 4 96; have := strOct_len (b := 7) (m := 0) (txt_len ok.2); show (numOct n 4 96 ++ strOct x 7 0).length ≤ _; rw [List.length_append]; omega
  | ent1 n => have h : n < r := ok; have := wholeOct_len (base := base) (n := n) (by omega) (by omega); show (wholeOct base n).length ≤ _; omega
  | ent2 n x => have h := ok.1; have := namedOct_len (base := base) (n := n) (by omega) (by omega); have := strOct_len (b := 7) (m := 0) (txt_len ok.2); show (namedOct base n ++ strOct x 7 0).length ≤ _; rw [List.length_append]; omega
  | out y x => have := strOct_len (b := 4) (m := 32) (txt_len (txt_20 ok.1)); have := strOct_len (b := 7) (m := 0) (txt_len ok.2); show (strOct y 4 32 ++ strOct x 7 0).length ≤ _; rw [List.length_append]; omega
theorem lns_succ {base i : Nat} {ls : List Ln} {l : Ln} (h : ls[i]? = some l) : lnsOct base (ls.take (i + 1)) = lnsOct base (ls.take i) ++ l.oct base := by
  unfold lnsOct
  rw [List.take_add_one, h]
  simp
theorem lns_len {base r : Nat} (hr : r ≤ 9999) (hb : base ≤ r) : ∀ (ls : List Ln), (∀ l ∈ ls, l.Ok r) → (lnsOct base ls).length ≤ 10101 * ls.length
  | [], _ => Nat.le_refl _
  | l :: ls, h => by
    have h1 := ln_len (base := base) (h l (List.mem_cons_self ..)) hr hb
    have h2 := lns_len hr hb ls (fun x hx => h x (List.mem_cons_of_mem _ hx))
    have e : lnsOct base (l :: ls) = l.oct base ++ lnsOct base ls := rfl
    rw [e, List.length_append, List.length_cons]
    omega
theorem lns_take_len {base r i : Nat} {ls : List Ln} (hr : r ≤ 9999) (hb : base ≤ r) (h : ∀ l ∈ ls, l.Ok r) (hn : ls.length ≤ 16) : (lnsOct base (ls.take i)).length ≤ 170000 := by
  have h1 := lns_len (base := base) hr hb (ls.take i) (fun l hl => h l (List.mem_of_mem_take hl))
  have h2 : (ls.take i).length ≤ 16 := by rw [List.length_take]; omega
  omega
end Fld
/-! reading lines and blocks: the mirror -/
namespace Fld
open PySem PySem.Spec PyProof.Rows L2
def takeWhole (os : List Int) (req base : Nat) (k : Nat) : Except Nat (Ln × Nat) :=
  match os[k]? with
  | none => .error k
  | some o => if 192 ≤ o then (takeNum os 6 192 0 9999 k).map fun z => (.fix1 z.1.toNat, z.2)
    else if 128 ≤ o then (takeNum os 3 128 0 ((base : Int) - 1) k).map fun z => (.ent1 ((base : Int) - 1 - z.1).toNat, z.2)
    else (takeNum os 2 16 0 ((req : Int) - base - 1) k).map fun z => (.ent1 ((base : Int) + z.1).toNat, z.2)
def takeNamed (os : List Int) (req base : Nat) (k : Nat) : Except Nat ((Bool × Nat) × Nat) :=
  match os[k]? with
  | none => .error k
  | some o => if 96 ≤ o then (takeNum os 4 96 0 9999 k).map fun z => ((true, z.1.toNat), z.2)
    else if 64 ≤ o then (takeNum os 3 64 0 ((base : Int) - 1) k).map fun z => ((false, ((base : Int) - 1 - z.1).toNat), z.2)
    else (takeNum os 2 0 0 ((req : Int) - base - 1) k).map fun z => ((false, ((base : Int) + z.1).toNat), z.2)
def namedLn (x : Str) : Bool × Nat → Ln
  | (true, n) => .fix2 n x
  | (false, n) => .ent2 n x
def takeLine (os : List Int) (req base : Nat) (k : Nat) : Except Nat (Ln × Nat) :=
  match os[k]? with
  | none => .error k
  | some o => if 128 ≤ o ∨ (16 ≤ o ∧ o < 32) then takeWhole os req base k
    else if 32 ≤ o ∧ o < 64 then
      (match takeStr os 4 32 1 20 k with
      | .error e => .error e
      | .ok (y, k1) => (takeStr os 7 0 0 40 k1).map fun z => (.out y z.1, z.2))
    else
      (match takeNamed os req base k with
      | .error e => .error e
      | .ok (s, k1) => (takeStr os 7 0 0 40 k1).map fun z => (namedLn z.1 s, z.2))
def takeLines (os : List Int) (req base : Nat) : Nat → Nat → Except Nat (List Ln × Nat)
  | 0, k => .ok ([], k)
  | n + 1, k => if k = os.length then .ok ([], k) else
    match takeLine os req base k with
    | .error e => .error e
    | .ok (l, k1) => (takeLines os req base n k1).map fun z => (l :: z.1, z.2)
def takeBlk (os : List Int) (k : Nat) : Except Nat (Blk × Nat) :=
  match takeNum os 8 0 0 9999 k with
  | .error e => .error e
  | .ok (r, k1) =>
    match takeNum os 8 0 0 r k1 with
    | .error e => .error e
    | .ok (d, k2) => (takeLines os r.toNat (r - d).toNat 16 k2).map fun z => (⟨r.toNat, (r - d).toNat, z.1⟩, z.2)
def rLn (K : PySem.W.Frag) : Ln → V → Hp → Prop := fun l v H => LnV K H v l
def rNm (K : PySem.W.Frag) : Bool × Nat → V → Hp → Prop := fun s v H => ∃ a, v = .ref a ∧ SqT K H a [.str (if s.1 then "fixed" else "entry"), .int s.2]
def rBlk (K : PySem.W.Frag) : Blk → V → Hp → Prop := fun b v H => BlkV K H v b
def sp_takeL (K : PySem.W.Frag) (C N : Addr) {α : Type} (f : List Int → Nat → Nat → Nat → Except Nat (α × Nat)) (R : α → V → Hp → Prop) : Sp := fun vs H Q E => ∃ (r a : Addr) (os : List Int) (k req base : Nat), vs = [.ref r, .int req, .int base] ∧ Rd K C H r a os k ∧ base ≤ req ∧ req ≤ 9999 ∧ RdRes K C N r a os H Q E R (f os req base k)
theorem sqT_but {K : PySem.W.Frag} {H H' : Hp} {p a : Addr} {xs : List V} (h : SqT K H a xs) (b : But p H H') (n1 : ∀ ys, H p ≠ some (.tup ys)) (n2 : ∀ o w, H p ≠ some (.frz o w)) : SqT K H' a xs := by
  rcases h with (h | ⟨o, h⟩) | h
  · exact .inl (.inl (b a _ (fun e => n1 _ (e ▸ h)) h))
  · exact .inl (.inr ⟨o, b a _ (fun e => n2 _ _ (e ▸ h)) h⟩)
  · exact .inr h
theorem lns_but {K : PySem.W.Frag} {H H' : Hp} {p : Addr} (b : But p H H') (n1 : ∀ ys, H p ≠ some (.tup ys)) (n2 : ∀ o w, H p ≠ some (.frz o w)) : ∀ {xs : List V} {ls : List Ln}, LnsV K H xs ls → LnsV K H' xs ls
  | _, _, .nil => .nil
  | _, _, .cons ⟨a, e, h⟩ t => .cons ⟨a, e, sqT_but h b n1 n2⟩ (lns_but b n1 n2 t)
theorem lns_app {K : PySem.W.Frag} {H : Hp} {v : V} {l : Ln} (h : LnV K H v l) : ∀ {xs : List V} {ls : List Ln}, LnsV K H xs ls → LnsV K H (xs ++ [v]) (ls ++ [l])
  | _, _, .nil => .cons h .nil
  | _, _, .cons h1 t => .cons h1 (lns_app h t)
end Fld
/-! what is written of a block is read again -/
namespace Fld
open PySem PySem.Spec PyProof.Rows L2
theorem head_at {pre os suf : List Int} {o : Int} {l : List Int} (h : os = o :: l) : (pre ++ (os ++ suf))[pre.length]? = some o := by
  rw [h, List.getElem?_append_right (Nat.le_refl _), Nat.sub_self]
  rfl
theorem p7 : ((2 ^ 7 - 1 : Nat) : Int) = 127 := rfl
theorem p6 : ((2 ^ 6 - 1 : Nat) : Int) = 63 := rfl
theorem p4 : ((2 ^ 4 - 1 : Nat) : Int) = 15 := rfl
theorem p3 : ((2 ^ 3 - 1 : Nat) : Int) = 7 := rfl
theorem p2 : ((2 ^ 2 - 1 : Nat) : Int) = 3 := rfl
theorem line_named {pre no suf : List Int} {x : Str} {req base : Nat} {s : Bool × Nat} {o : Int} {l : List Int} (hh : no = o :: l) (h0 : o < 16 ∨ (64 ≤ o ∧ o < 128)) (hx : txt (.str x) 0 40 = true) (hn : takeNamed (pre ++ (no ++ (strOct x 7 0 ++ suf))) req base pre.length = .ok (s, pre.length + no.length)) :
    takeLine (pre ++ ((no ++ strOct x 7 0) ++ suf)) req base pre.length = .ok (namedLn x s, pre.length + (no ++ strOct x 7 0).length) := by
  have h40 := txt_len hx
  have e1 : pre ++ ((no ++ strOct x 7 0) ++ suf) = pre ++ (no ++ (strOct x 7 0 ++ suf)) := by rw [List.append_assoc]
  rw [e1]
  unfold takeLine
  rw [head_at hh]
  dsimp only
  rw [if_neg (by omega), if_neg (by omega), hn]
  dsimp only
  have := takeStr_oct x 7 0 0 40 (pre ++ no) suf (txt_all hx) (by omega) (by omega) (by decide) (by decide)
  rw [List.append_assoc, List.length_append] at this
  rw [this]
  refine congrArg Except.ok (Prod.ext rfl ?_)
  show pre.length + no.length + (strOct x 7 0).length = pre.length + (no ++ strOct x 7 0).length
  rw [List.length_append]
  omega
theorem line_oct {pre suf : List Int} {req base : Nat} (hr : req ≤ 9999) (hb : base ≤ req) (l : Ln) (ok : l.Ok req) : takeLine (pre ++ (l.oct base ++ suf)) req base pre.length = .ok (l, pre.length + (l.oct base).length) := by
  have P6 := p6
  have P4 := p4
  have P3 := p3
  have P2 := p2
  cases l with
  | fix1 n =>
    have hn : n ≤ 9999 := ok
    obtain ⟨o, t, e, h1, h2⟩ := numOct_head n 6 192
    have e0 : (Ln.fix1 n).oct base = numOct n 6 192 := rfl
    rw [e0]
    unfold takeLine takeWhole
    rw [head_at e]
    dsimp only
    rw [if_pos (.inl (by omega)), if_pos (by omega), takeNum_oct n 6 192 0 9999 pre suf (by omega) (by omega) (by decide) (by decide)]
    show Except.ok (Ln.fix1 ((n : Nat) : Int).toNat, _) = _
    rw [Int.toNat_natCast]
  | fix2 n x =>
    obtain ⟨o, t, e, h1, h2⟩ := numOct_head n 4 96
    have h9 := ok.1
    refine line_named (s := (true, n)) e (by omega) ok.2 ?_
    unfold takeNamed
    rw [head_at e]
    dsimp only
    rw [if_pos (by omega), takeNum_oct n 4 96 0 9999 pre _ (by omega) (by omega) (by decide) (by decide)]
    show Except.ok ((true, ((n : Nat) : Int).toNat), _) = _
    rw [Int.toNat_natCast]
  | ent1 n =>
    have hn : n < req := ok
    have e0 : (Ln.ent1 n).oct base = wholeOct base n := rfl
    rw [e0]
    unfold wholeOct
    by_cases hlt : n < base
    · rw [if_pos hlt]
      obtain ⟨o, t, e, h1, h2⟩ := numOct_head (base - n - 1) 3 128
      unfold takeLine takeWhole
      rw [head_at e]
      dsimp only
      rw [if_pos (.inl (by omega)), if_neg (by omega), if_pos (by omega), takeNum_oct (base - n - 1) 3 128 0 ((base : Int) - 1) pre suf (by omega) (by omega) (by decide) (by omega)]
      show Except.ok (Ln.ent1 ((base : Int) - 1 - ((base - n - 1 : Nat) : Int)).toNat, _) = _
      rw [show ((base : Int) - 1 - ((base - n - 1 : Nat) : Int)).toNat = n by omega]
    · rw [if_neg hlt]
      obtain ⟨o, t, e, h1, h2⟩ := numOct_head (n - base) 2 16
      unfold takeLine takeWhole
      rw [head_at e]
      dsimp only
      rw [if_pos (.inr ⟨by omega, by omega⟩), if_neg (by omega), if_neg (by omega), takeNum_oct (n - base) 2 16 0 ((req : Int) - base - 1) pre suf (by omega) (by omega) (by decide) (by omega)]
      show Except.ok (Ln.ent1 ((base : Int) + ((n - base : Nat) : Int)).toNat, _) = _
      rw [show ((base : Int) + ((n - base : Nat) : Int)).toNat = n by omega]
  | ent2 n x =>
    have hn := ok.1
    have e0 : (Ln.ent2 n x).oct base = namedOct base n ++ strOct x 7 0 := rfl
    rw [e0]
    unfold namedOct
    by_cases hlt : n < base
    · rw [if_pos hlt]
      obtain ⟨o, t, e, h1, h2⟩ := numOct_head (base - n - 1) 3 64
      refine line_named (s := (false, n)) e (by omega) ok.2 ?_
      unfold takeNamed
      rw [head_at e]
      dsimp only
      rw [if_neg (by omega), if_pos (by omega), takeNum_oct (base - n - 1) 3 64 0 ((base : Int) - 1) pre _ (by omega) (by omega) (by decide) (by omega)]
      show Except.ok ((false, ((base : Int) - 1 - ((base - n - 1 : Nat) : Int)).toNat), _) = _
      rw [show ((base : Int) - 1 - ((base - n - 1 : Nat) : Int)).toNat = n by omega]
    · rw [if_neg hlt]
      obtain ⟨o, t, e, h1, h2⟩ := numOct_head (n - base) 2 0
      refine line_named (s := (false, n)) e (by omega) ok.2 ?_
      unfold takeNamed
      rw [head_at e]
      dsimp only
      rw [if_neg (by omega), if_neg (by omega), takeNum_oct (n - base) 2 0 0 ((req : Int) - base - 1) pre _ (by omega) (by omega) (by decide) (by omega)]
      show Except.ok ((false, ((base : Int) + ((n - base : Nat) : Int)).toNat), _) = _
      rw [show ((base : Int) + ((n - base : Nat) : Int)).toNat = n by omega]
  | out y x =>
    obtain ⟨o, t, e, h1, h2⟩ := strOct_head y 4 32
    have h40 := txt_len ok.2
    have h20 := txt_len20 ok.1
    have e0 : (Ln.out y x).oct base = strOct y 4 32 ++ strOct x 7 0 := rfl
    rw [e0, show pre ++ ((strOct y 4 32 ++ strOct x 7 0) ++ suf) = pre ++ (strOct y 4 32 ++ (strOct x 7 0 ++ suf)) by rw [List.append_assoc]]
    unfold takeLine
    rw [head_at e]
    dsimp only
    rw [if_neg (by omega), if_pos ⟨by omega, by omega⟩, takeStr_oct y 4 32 1 20 pre _ (txt_all ok.1) (by omega) (by omega) (by decide) (by decide)]
    dsimp only
    have := takeStr_oct x 7 0 0 40 (pre ++ strOct y 4 32) suf (txt_all ok.2) (by omega) (by omega) (by decide) (by decide)
    rw [List.append_assoc, List.length_append] at this
    rw [this]
    refine congrArg Except.ok (Prod.ext rfl ?_)
    show pre.length + (strOct y 4 32).length + (strOct x 7 0).length = pre.length + (strOct y 4 32 ++ strOct x 7 0).length
    rw [List.length_append]
    omega
theorem ln_pos {base : Nat} (l : Ln) : 0 < (l.oct base).length := by
  have hd : ∀ {os : List Int}, (∃ o t, os = o :: t) → 0 < os.length := fun ⟨o, t, e⟩ => by rw [e]; exact Nat.succ_pos _
  have nm : ∀ n b m, 0 < (numOct n b m).length := fun n b m => hd (let ⟨o, t, e, _⟩ := numOct_head n b m; ⟨o, t, e⟩)
  have st : ∀ x b m, 0 < (strOct x b m).length := fun x b m => hd (let ⟨o, t, e, _⟩ := strOct_head x b m; ⟨o, t, e⟩)
  cases l with
  | fix1 n => exact nm _ _ _
  | fix2 n x => show 0 < (numOct n 4 96 ++ strOct x 7 0).length; rw [List.length_append]; have := st x 7 0; omega
  | ent1 n => show 0 < (wholeOct base n).length; unfold wholeOct; split <;> exact nm _ _ _
  | ent2 n x => show 0 < (namedOct base n ++ strOct x 7 0).length; rw [List.length_append]; have := st x 7 0; omega
  | out y x => show 0 < (strOct y 4 32 ++ strOct x 7 0).length; rw [List.length_append]; have := st x 7 0; omega
theorem lines_oct {req base : Nat} (hr : req ≤ 9999) (hb : base ≤ req) : ∀ (ls : List Ln) (N : Nat) (pre : List Int), (∀ l ∈ ls, l.Ok req) → ls.length ≤ N → takeLines (pre ++ lnsOct base ls) req base N pre.length = .ok (ls, (pre ++ lnsOct base ls).length)
  | [], N, pre, _, _ => by
    have e : pre ++ lnsOct base [] = pre := List.append_nil _
    rw [e]
    cases N with
    | zero => rfl
    | succ n => rw [takeLines, if_pos rfl]
  | l :: ls, 0, pre, _, h => absurd h (Nat.not_succ_le_zero _)
  | l :: ls, n + 1, pre, ok, h => by
    have e : lnsOct base (l :: ls) = l.oct base ++ lnsOct base ls := rfl
    have hp := ln_pos (base := base) l
    rw [e, takeLines, if_neg (by rw [List.length_append, List.length_append]; omega), line_oct hr hb l (ok l (List.mem_cons_self ..))]
    dsimp only
    have ih := lines_oct hr hb ls n (pre ++ l.oct base) (fun x hx => ok x (List.mem_cons_of_mem _ hx)) (Nat.le_of_succ_le_succ h)
    rw [List.append_assoc, List.length_append] at ih
    rw [ih]
    rfl
theorem whole_blk (b : Blk) (ok : b.Ok) : whole b.oct takeBlk = .ok b := by
  have o1 := ok.req_
  have o2 := ok.base_
  obtain ⟨req, base, ls⟩ := b
  refine whole_of ?_
  dsimp only at o1 o2
  have o3 := ok.len_
  have o4 := ok.lns_
  dsimp only at o3 o4
  have e0 : (Blk.mk req base ls).oct = numOct req 8 0 ++ (numOct (req - base) 8 0 ++ lnsOct base ls) := by
    show (numOct req 8 0 ++ numOct (req - base) 8 0) ++ lnsOct base ls = _
    rw [List.append_assoc]
  have h1 := takeNum0 req 8 0 0 9999 (numOct (req - base) 8 0 ++ lnsOct base ls) (by omega) (by omega) (by decide) (by decide)
  have h2 := takeNum_oct (req - base) 8 0 0 (req : Int) (numOct req 8 0) (lnsOct base ls) (by omega) (by omega) (by decide) (by omega)
  have h3 := lines_oct (pre := numOct req 8 0 ++ numOct (req - base) 8 0) o1 o2 ls 16 o4 o3
  unfold takeBlk
  rw [e0, h1]
  dsimp only
  rw [h2]
  dsimp only
  rw [List.append_assoc, List.length_append] at h3
  have eb : ((req : Int) - ((req - base : Nat) : Int)).toNat = base := by omega
  rw [Int.toNat_natCast, eb, h3]
  rfl
end Fld
/-! lines and blocks as data; how the laws draw them -/
namespace Fld
open PySem PySem.Spec PyProof.Rows L2
def Ln.dat : Ln → PyData
  | .fix1 n => .tuple [.str "fixed", .int n]
  | .fix2 n x => .tuple [.str "fixed", .int n, .str x]
  | .ent1 n => .tuple [.str "entry", .int n]
  | .ent2 n x => .tuple [.str "entry", .int n, .str x]
  | .out y x => .tuple [.str "out", .str y, .str x]
def Blk.dat (b : Blk) : PyData := .tuple [.int b.req, .int b.base, .tuple (b.ls.map Ln.dat)]
theorem dp_ln {K : PySem.W.Frag} {H : Hp} {a : Addr} {l : Ln} (h : SqT K H a l.vs) : Dp K H (.ref a) l.dat := by
  cases l with
  | fix1 n => exact .tup h (.cons (.str _) (.cons (.int _) .nil))
  | fix2 n x => exact .tup h (.cons (.str _) (.cons (.int _) (.cons (.str _) .nil)))
  | ent1 n => exact .tup h (.cons (.str _) (.cons (.int _) .nil))
  | ent2 n x => exact .tup h (.cons (.str _) (.cons (.int _) (.cons (.str _) .nil)))
  | out y x => exact .tup h (.cons (.str _) (.cons (.str _) (.cons (.str _) .nil)))
theorem dp_lns {K : PySem.W.Frag} {H : Hp} : ∀ {xs : List V} {ls : List Ln}, LnsV K H xs ls → DpAll K H xs (ls.map Ln.dat)
  | _, _, .nil => .nil
  | _, _, .cons ⟨_, e, h⟩ t => .cons (e ▸ dp_ln h) (dp_lns t)
theorem dp_blk {K : PySem.W.Frag} {H : Hp} {v : V} {b : Blk} (h : BlkV K H v b) : Dp K H v b.dat := by
  obtain ⟨a, t, xs, rfl, h1, h2, h3⟩ := h
  exact .tup h1 (.cons (.int _) (.cons (.int _) (.cons (.tup h2 (dp_lns h3)) .nil)))
theorem dle_ln (n : Nat) (l : Ln) : DLe (n + 1) l.dat := by
  cases l with
  | fix1 k => exact dle_2 (dle_str _ _) (dle_int _ _)
  | fix2 k x => exact dle_3 (dle_str _ _) (dle_int _ _) (dle_str _ _)
  | ent1 k => exact dle_2 (dle_str _ _) (dle_int _ _)
  | ent2 k x => exact dle_3 (dle_str _ _) (dle_int _ _) (dle_str _ _)
  | out y x => exact dle_3 (dle_str _ _) (dle_str _ _) (dle_str _ _)
theorem dle_blk (n : Nat) {b : Blk} (ok : b.Ok) : DLe (n + 3) b.dat := by
  refine dle_3 (dle_int _ _) (dle_int _ _) ⟨?_, fun d hd => ?_⟩
  · rw [List.length_map]; have := ok.len_; omega
  · obtain ⟨l, _, rfl⟩ := List.mem_map.mp hd
    exact dle_ln n l
theorem okD_ln {r : Nat} {l : Ln} (hr : r ≤ 9999) (ok : l.Ok r) : okD l.dat = true ∧ wD l.dat ≤ 5000 := by
  cases l with
  | fix1 n =>
    refine ⟨?_, by show 10 * 5 + 2 + 2 + (1010 + 2 + 0) + 4 ≤ 5000; decide⟩
    show (okD (.str "fixed") && (okD (.int (n : Nat)) && true)) = true
    rw [okD_nat ok]; decide +kernel
  | ent1 n =>
    have h : n < r := ok
    refine ⟨?_, by show 10 * 5 + 2 + 2 + (1010 + 2 + 0) + 4 ≤ 5000; decide⟩
    show (okD (.str "entry") && (okD (.int (n : Nat)) && true)) = true
    rw [okD_nat (by omega)]; decide +kernel
  | fix2 n x =>
    have hx := txt_len ok.2
    refine ⟨?_, by show 10 * 5 + 2 + 2 + (1010 + 2 + (10 * x.length + 2 + 2 + 0)) + 4 ≤ 5000; omega⟩
    show (okD (.str "fixed") && (okD (.int (n : Nat)) && (okD (.str x) && true))) = true
    rw [okD_nat ok.1, okD_str (txt_all ok.2)]; decide +kernel
  | ent2 n x =>
    have hx := txt_len ok.2
    have h := ok.1
    refine ⟨?_, by show 10 * 5 + 2 + 2 + (1010 + 2 + (10 * x.length + 2 + 2 + 0)) + 4 ≤ 5000; omega⟩
    show (okD (.str "entry") && (okD (.int (n : Nat)) && (okD (.str x) && true))) = true
    rw [okD_nat (by omega), okD_str (txt_all ok.2)]; decide +kernel
  | out y x =>
    have hx := txt_len ok.2
    have hy := txt_len20 ok.1
    refine ⟨?_, by show 10 * 3 + 2 + 2 + (10 * y.length + 2 + 2 + (10 * x.length + 2 + 2 + 0)) + 4 ≤ 5000; omega⟩
    show (okD (.str "out") && (okD (.str y) && (okD (.str x) && true))) = true
    rw [okD_str (txt_all ok.1), okD_str (txt_all ok.2)]; decide +kernel
theorem okD_lns {r : Nat} (hr : r ≤ 9999) : ∀ {ls : List Ln}, (∀ l ∈ ls, l.Ok r) → okAll (ls.map Ln.dat) = true ∧ wAll (ls.map Ln.dat) ≤ 5002 * ls.length
  | [], _ => ⟨rfl, Nat.le_refl _⟩
  | l :: ls, h => by
    have h1 := okD_ln hr (h l (List.mem_cons_self ..))
    have h2 := okD_lns hr (ls := ls) fun x hx => h x (List.mem_cons_of_mem _ hx)
    refine ⟨?_, ?_⟩
    · show (okD l.dat && okAll (ls.map Ln.dat)) = true
      rw [h1.1, h2.1]; rfl
    · show wD l.dat + 2 + wAll (ls.map Ln.dat) ≤ 5002 * (ls.length + 1)
      have := h1.2
      have := h2.2
      omega
theorem okD_blk {b : Blk} (ok : b.Ok) : okD b.dat = true ∧ wD b.dat ≤ 10000000 := by
  have h := okD_lns ok.req_ ok.lns_
  have h1 := ok.req_
  have h2 := ok.base_
  have h3 := ok.len_
  refine ⟨?_, ?_⟩
  · show (okD (.int (b.req : Nat)) && (okD (.int (b.base : Nat)) && (okAll (b.ls.map Ln.dat) && true))) = true
    rw [okD_nat h1, okD_nat (by omega), h.1]; rfl
  · show 1010 + 2 + (1010 + 2 + (wAll (b.ls.map Ln.dat) + 4 + 2 + 0)) + 4 ≤ 10000000
    have := h.2
    omega
theorem blk_len {b : Blk} (ok : b.Ok) : b.oct.length ≤ 1000000 ∧ b.oct.length ≤ 200000 := by
  have h := lns_len ok.req_ ok.base_ b.ls ok.lns_
  have h1 := ok.req_
  have h2 := ok.base_
  have h3 := ok.len_
  have l1 := numOct_len b.req 8 0
  have l2 := numOct_len (b.req - b.base) 8 0
  unfold Blk.oct
  rw [List.length_append, List.length_append]
  omega
theorem ln_octs {base r : Nat} {l : Ln} (ok : l.Ok r) : ∀ o ∈ l.oct base, 0 ≤ o ∧ o < 256 := by
  cases l with
  | fix1 n => exact numOct_oct (by decide)
  | fix2 n x => exact app_oct (numOct_oct (by decide)) (strOct_oct (by decide) (txt_all ok.2))
  | ent1 n => show ∀ o ∈ wholeOct base n, _; unfold wholeOct; split <;> exact numOct_oct (by decide)
  | ent2 n x =>
    refine app_oct ?_ (strOct_oct (by decide) (txt_all ok.2))
    unfold namedOct; split <;> exact numOct_oct (by decide)
  | out y x => exact app_oct (strOct_oct (by decide) (txt_all ok.1)) (strOct_oct (by decide) (txt_all ok.2))
theorem lns_octs {base r : Nat} : ∀ {ls : List Ln}, (∀ l ∈ ls, l.Ok r) → ∀ o ∈ lnsOct base ls, 0 ≤ o ∧ o < 256
  | [], _ => fun o ho => nomatch ho
  | l :: ls, h => app_oct (ln_octs (h l (List.mem_cons_self ..))) (lns_octs (ls := ls) fun x hx => h x (List.mem_cons_of_mem _ hx))
theorem blk_octs {b : Blk} (ok : b.Ok) : ∀ o ∈ b.oct, 0 ≤ o ∧ o < 256 := app_oct (app_oct (numOct_oct (by decide)) (numOct_oct (by decide))) (lns_octs ok.lns_)
def sp_law_draw_line : Sp := fun vs H Q _ => ∃ (p c : Addr) (n req : Nat), vs = [.ref p, .int req] ∧ Pen H p c n ∧ n ≤ 700000 ∧ req ≤ 9999 ∧ ∀ (a : Addr) (l : Ln) H', H' a = some (.tup l.vs) → l.Ok req → Drew p c H H' (n + 200) → Q (.ref a) H'
def sp_law_draw_block (K : PySem.W.Frag) : Sp := fun vs H Q _ => ∃ (p c : Addr) (n : Nat), vs = [.ref p] ∧ Pen H p c n ∧ n ≤ 600000 ∧ ∀ v (b : Blk) H', BlkV K H' v b → b.Ok → Drew p c H H' (n + 4000) → Q v H'
theorem restOct_len2 {r : Nat} (h : r < 16384) : (restOct r).length ≤ 2 := by
  by_cases h1 : r < 128
  · rw [restOct_lt h1]; show 1 ≤ 2; decide
  · rw [restOct_ge h1, restOct_lt (show r / 128 < 128 by omega)]; show 2 ≤ 2; decide
theorem numOct_len3 {n b m : Nat} (h : n ≤ 9999) : (numOct n b m).length ≤ 3 := by
  unfold numOct
  by_cases h1 : n < 2 ^ b - 1
  · rw [if_pos h1]; show 1 ≤ 3; decide
  · rw [if_neg h1, List.length_cons]
    have := restOct_len2 (r := n - (2 ^ b - 1)) (by omega)
    omega
theorem strOct_len2 {x : Str} {b m : Nat} (h : x.length ≤ 40) : (strOct x b m).length ≤ 43 := by
  unfold strOct
  have := numOct_len3 (n := x.length) (b := b) (m := m) (by omega)
  rw [List.length_append, List.length_map, ← str_len]
  omega
theorem ln_len2 {base r : Nat} {l : Ln} (ok : l.Ok r) (hr : r ≤ 9999) (hb : base ≤ r) : (l.oct base).length ≤ 90 := by
  cases l with
  | fix1 n => have h : n ≤ 9999 := ok; have := numOct_len3 (b := 6) (m := 192) h; show (numOct n 6 192).length ≤ _; omega
  | fix2 n x => have := numOct_len3 (b := 4) (m := 96) ok.1; have := strOct_len2 (b := 7) (m := 0) (txt_len ok.2); show (numOct n 4 96 ++ strOct x 7 0).length ≤ _; rw [List.length_append]; omega
  | ent1 n =>
    have h : n < r := ok
    show (wholeOct base n).length ≤ _
    unfold wholeOct
    split
    · have := numOct_len3 (n := base - n - 1) (b := 3) (m := 128) (by omega); omega
    · have := numOct_len3 (n := n - base) (b := 2) (m := 16) (by omega); omega
  | ent2 n x =>
    have h := ok.1
    have := strOct_len2 (b := 7) (m := 0) (txt_len ok.2)
    show (namedOct base n ++ strOct x 7 0).length ≤ _
    rw [List.length_append]
    unfold namedOct
    split
    · have := numOct_len3 (n := base - n - 1) (b := 3) (m := 64) (by omega); omega
    · have := numOct_len3 (n := n - base) (b := 2) (m := 0) (by omega); omega
  | out y x => have := strOct_len2 (b := 4) (m := 32) (txt_len (txt_20 ok.1)); have := strOct_len2 (b := 7) (m := 0) (txt_len ok.2); show (strOct y 4 32 ++ strOct x 7 0).length ≤ _; rw [List.length_append]; omega
theorem lns_len2 {base r : Nat} (hr : r ≤ 9999) (hb : base ≤ r) : ∀ (ls : List Ln), (∀ l ∈ ls, l.Ok r) → (lnsOct base ls).length ≤ 90 * ls.length
  | [], _ => Nat.le_refl _
  | l :: ls, h => by
    have h1 := ln_len2 (base := base) (h l (List.mem_cons_self ..)) hr hb
    have h2 := lns_len2 hr hb ls (fun x hx => h x (List.mem_cons_of_mem _ hx))
    have e : lnsOct base (l :: ls) = l.oct base ++ lnsOct base ls := rfl
    rw [e, List.length_append, List.length_cons]
    omega
theorem blk_len2 {b : Blk} (ok : b.Ok) : b.oct.length ≤ 2000 := by
  have h := lns_len2 ok.req_ ok.base_ b.ls ok.lns_
  have h1 := ok.req_
  have h2 := ok.base_
  have h3 := ok.len_
  have l1 := numOct_len3 (b := 8) (m := 0) h1
  have l2 := numOct_len3 (n := b.req - b.base) (b := 8) (m := 0) (by omega)
  unfold Blk.oct
  rw [List.length_append, List.length_append]
  omega
end Fld
/-! what a line, a block is, over data of any kind -/
namespace Fld
open PySem PySem.Spec PyProof.Rows L2
def dLine (req : Int) : PyData → Bool
  | .tuple [k, n] => if isS k "fixed" then dBtw n 0 9999 else isS k "entry" && dBtw n 0 (req - 1)
  | .tuple [k, n, x] => dTxt x 0 40 && (if isS k "fixed" then dBtw n 0 9999 else if isS k "entry" then dBtw n 0 (req - 1) else isS k "out" && dTxt n 1 20)
  | _ => false
def dBlk3 : PyData → PyData → PyData → Bool
  | .int r, b, .tuple ls => dBtw (.int r) 0 9999 && dBtw b 0 r && decide (ls.length ≤ 16) && ls.all (dLine r)
  | _, _, _ => false
def dBlock : PyData → Bool
  | .tuple [r, b, l] => dBlk3 r b l
  | _ => false
def sp_chkLn (K : PySem.W.Frag) : Sp := fun vs H Q _ => ∃ (v : V) (d : PyData) (r : Int), vs = [v, .int r] ∧ Dv K H v d ∧ Lim d ∧ ∀ H', Same H H' → Q (.bl (dLine r d)) H'
/-- a write that refuses what is none -/
def sp_write_any (K : PySem.W.Frag) (N : Addr) (f : PyData → Bool) : Sp := fun vs H Q E => ∃ (v : V) (d : PyData), vs = [v] ∧ Dv K H v d ∧ Lim d ∧ (f d = true → ∀ v' H', Same H H' → Q v' H') ∧ (f d = false → ∀ H', Same H H' → E (.ref N) none H')
/-- refused, or not -/
def sp_refused (K : PySem.W.Frag) (f : PyData → Bool) : Sp := fun vs H Q _ => ∃ (v : V) (d : PyData), vs = [v] ∧ Dv K H v d ∧ Lim d ∧ ∀ H', Same H H' → Q (.bl (!f d)) H'
theorem dLine_ne {r : Int} {ds : List PyData} (h2 : ds.length ≠ 2) (h3 : ds.length ≠ 3) : dLine r (.tuple ds) = false := by
  match ds, h2, h3 with
  | [], _, _ => rfl
  | [_], _, _ => rfl
  | [_, _], h, _ => exact absurd rfl h
  | [_, _, _], _, h => exact absurd rfl h
  | _ :: _ :: _ :: _ :: _, _, _ => rfl
theorem dLine_no {r : Int} {d : PyData} (e : subT (tyD d) "tuple" = false) : dLine r d = false := by
  rw [sub_tup] at e
  cases d <;> first | rfl | cases e
theorem dBlock_no {d : PyData} (e : subT (tyD d) "tuple" = false) : dBlock d = false := by
  rw [sub_tup] at e
  cases d <;> first | rfl | cases e
theorem dBlock_ne {ds : List PyData} (h : ds.length ≠ 3) : dBlock (.tuple ds) = false := by
  match ds, h with
  | [], _ => rfl
  | [_], _ => rfl
  | [_, _], _ => rfl
  | [_, _, _], h => exact absurd rfl h
  | _ :: _ :: _ :: _ :: _, _ => rfl
theorem blk3_num {r b l : PyData} (e : dBtw r 0 9999 = false) : dBlk3 r b l = false := by
  cases r <;> first | rfl | skip
  cases l <;> first | rfl | skip
  show (dBtw _ 0 9999 && _ && _ && _) = false
  rw [e]; rfl
theorem btw_int {d : PyData} {a b : Int} (e : dBtw d a b = true) : ∃ i : Int, d = .int i ∧ a ≤ i ∧ i ≤ b := by
  cases d <;> first | (cases e; done) | skip
  rename_i i
  have e' : (decide (a ≤ i) && decide (i ≤ b)) = true := e
  rw [Bool.and_eq_true, decide_eq_true_eq, decide_eq_true_eq] at e'
  exact ⟨i, rfl, e'.1, e'.2⟩
theorem isS_str {d : PyData} {z : Str} (e : isS d z = true) : d = .str z := by
  cases d <;> first | (cases e; done) | skip
  rename_i x
  have : x = z := of_decide_eq_true e
  rw [this]
theorem txt_str {d : PyData} {a b : Int} (e : dTxt d a b = true) : ∃ x, d = .str x ∧ txt (.str x) a b = true := by
  cases d <;> first | (cases e; done) | skip
  rename_i x
  exact ⟨x, rfl, e⟩
theorem Dv.sInt {K : PySem.W.Frag} {H : Hp} {v : V} {i : Int} (h : Dv K H v (.int i)) : v = .int i := by cases h; rfl
theorem Dv.sStr {K : PySem.W.Frag} {H : Hp} {v : V} {x : Str} (h : Dv K H v (.str x)) : v = .str x := by cases h; rfl
theorem Dv.sTup {K : PySem.W.Frag} {H : Hp} {v : V} {ds : List PyData} (h : Dv K H v (.tuple ds)) : ∃ a xs, v = .ref a ∧ SqT K H a xs ∧ DvAll K H xs ds := by
  cases h with
  | tup hs ha => exact ⟨_, _, rfl, hs, ha⟩
theorem Dv.sLst {K : PySem.W.Frag} {H : Hp} {v : V} {ds : List PyData} (h : Dv K H v (.list ds)) : ∃ a xs, v = .ref a ∧ SqL K H a xs ∧ DvAll K H xs ds := by
  cases h with
  | lst hs ha => exact ⟨_, _, rfl, hs, ha⟩
theorem ln_of {K : PySem.W.Frag} {H : Hp} {v : V} {d : PyData} {r : Nat} (h : Dv K H v d) (e : dLine r d = true) : ∃ l : Ln, LnV K H v l ∧ l.Ok r := by
  match d, h, e with
  | .tuple [k, n], h, e =>
    obtain ⟨a, xs, rfl, hs, ha⟩ := h.sTup
    obtain ⟨x0, x1, d0, d1, rfl, e2, h0, h1⟩ := len2 ha (by rw [ha.len]; rfl)
    injection e2 with e3 e4
    injection e4 with e4 _
    subst e3 e4
    have e' : (if isS k "fixed" = true then dBtw n 0 9999 else isS k "entry" && dBtw n 0 ((r : Int) - 1)) = true := e
    by_cases c : isS k "fixed" = true
    · rw [if_pos c] at e'
      obtain ⟨i, rfl, i0, i1⟩ := btw_int e'
      have := isS_str c; subst this
      have := h0.sStr; subst this
      have := h1.sInt; subst this
      obtain ⟨m, rfl⟩ : ∃ m : Nat, i = (m : Int) := ⟨i.toNat, by omega⟩
      exact ⟨.fix1 m, ⟨a, rfl, hs⟩, by show m ≤ 9999; omega⟩
    · rw [if_neg c, Bool.and_eq_true] at e'
      obtain ⟨i, rfl, i0, i1⟩ := btw_int e'.2
      have := isS_str e'.1; subst this
      have := h0.sStr; subst this
      have := h1.sInt; subst this
      obtain ⟨m, rfl⟩ : ∃ m : Nat, i = (m : Int) := ⟨i.toNat, by omega⟩
      exact ⟨.ent1 m, ⟨a, rfl, hs⟩, by show m < r; omega⟩
  | .tuple [k, n, x], h, e =>
    obtain ⟨a, xs, rfl, hs, ha⟩ := h.sTup
    obtain ⟨x0, x1, x2, d0, d1, d2, rfl, e2, h0, h1, h2⟩ := len3 ha (by rw [ha.len]; rfl)
    injection e2 with e3 e4
    injection e4 with e4 e5
    injection e5 with e5 _
    subst e3 e4 e5
    have e' : (dTxt x 0 40 && (if isS k "fixed" = true then dBtw n 0 9999 else if isS k "entry" = true then dBtw n 0 ((r : Int) - 1) else isS k "out" && dTxt n 1 20)) = true := e
    rw [Bool.and_eq_true] at e'
    obtain ⟨y, rfl, hy⟩ := txt_str e'.1
    have := h2.sStr; subst this
    have e6 := e'.2
    by_cases c : isS k "fixed" = true
    · rw [if_pos c] at e6
      obtain ⟨i, rfl, i0, i1⟩ := btw_int e6
      have := isS_str c; subst this
      have := h0.sStr; subst this
      have := h1.sInt; subst this
      obtain ⟨m, rfl⟩ : ∃ m : Nat, i = (m : Int) := ⟨i.toNat, by omega⟩
      exact ⟨.fix2 m y, ⟨a, rfl, hs⟩, by omega, hy⟩
    · rw [if_neg c] at e6
      by_cases c2 : isS k "entry" = true
      · rw [if_pos c2] at e6
        obtain ⟨i, rfl, i0, i1⟩ := btw_int e6
        have := isS_str c2; subst this
        have := h0.sStr; subst this
        have := h1.sInt; subst this
        obtain ⟨m, rfl⟩ : ∃ m : Nat, i = (m : Int) := ⟨i.toNat, by omega⟩
        exact ⟨.ent2 m y, ⟨a, rfl, hs⟩, by omega, hy⟩
      · rw [if_neg c2, Bool.and_eq_true] at e6
        obtain ⟨z, rfl, hz⟩ := txt_str e6.2
        have := isS_str e6.1; subst this
        have := h0.sStr; subst this
        have := h1.sStr; subst this
        exact ⟨.out z y, ⟨a, rfl, hs⟩, hz, hy⟩
theorem lns_of {K : PySem.W.Frag} {H : Hp} {r : Nat} : ∀ {xs : List V} {ds : List PyData}, DvAll K H xs ds → ds.all (dLine r) = true → ∃ ls : List Ln, LnsV K H xs ls ∧ ∀ l ∈ ls, l.Ok r
  | _, _, .nil, _ => ⟨[], .nil, fun l hl => nomatch hl⟩
  | _, _, .cons h t, e => by
    rw [List.all_cons, Bool.and_eq_true] at e
    obtain ⟨l, hl, ok⟩ := ln_of h e.1
    obtain ⟨ls, hls, oks⟩ := lns_of t e.2
    refine ⟨l :: ls, .cons hl hls, fun x hx => ?_⟩
    rcases List.mem_cons.mp hx with rfl | hx
    · exact ok
    · exact oks x hx
theorem blk_of {K : PySem.W.Frag} {H : Hp} {v : V} {d : PyData} (h : Dv K H v d) (e : dBlock d = true) : ∃ b : Blk, BlkV K H v b ∧ b.Ok := by
  match d, h, e with
  | .tuple [r, b, l], h, e =>
    obtain ⟨a, xs, rfl, hs, ha⟩ := h.sTup
    obtain ⟨x0, x1, x2, d0, d1, d2, rfl, e2, h0, h1, h2⟩ := len3 ha (by rw [ha.len]; rfl)
    injection e2 with e3 e4
    injection e4 with e4 e5
    injection e5 with e5 _
    subst e3 e4 e5
    match r, b, l, e, h0, h1, h2 with
    | .int r, b, .tuple ls, e, h0, h1, h2 =>
      have e' : (dBtw (.int r) 0 9999 && dBtw b 0 r && decide (ls.length ≤ 16) && ls.all (dLine r)) = true := e
      rw [Bool.and_eq_true, Bool.and_eq_true, Bool.and_eq_true, decide_eq_true_eq] at e'
      obtain ⟨⟨⟨q1, q2⟩, q3⟩, q4⟩ := e'
      obtain ⟨i, ei, i0, i1⟩ := btw_int q1
      injection ei with ei; subst ei
      obtain ⟨j, rfl, j0, j1⟩ := btw_int q2
      have := h0.sInt; subst this
      have := h1.sInt; subst this
      obtain ⟨t, ys, rfl, ht, hy⟩ := h2.sTup
      obtain ⟨m, rfl⟩ : ∃ m : Nat, r = (m : Int) := ⟨r.toNat, by omega⟩
      obtain ⟨k, rfl⟩ : ∃ m : Nat, j = (m : Int) := ⟨j.toNat, by omega⟩
      obtain ⟨ks, hk, ok⟩ := lns_of hy q4
      refine ⟨⟨m, k, ks⟩, ⟨a, t, ys, rfl, hs, ht, hk⟩, by show m ≤ 9999; omega, by show k ≤ m; omega, ?_, ok⟩
      show ks.length ≤ 16
      have := hk.len
      have := hy.len
      omega
end Fld
namespace Fld
open PySem PySem.Spec PyProof.Rows L2
theorem in23 (n : Nat) : inV (.int (n : Nat)) [.int 2, .int 3] = (decide (n = 2) || decide (n = 3)) := by
  show (eqV (.int 2) (.int n) || (eqV (.int 3) (.int n) || false)) = _
  have h : ∀ m : Int, eqV (.int m) (.int (n : Int)) = decide ((n : Int) = m) := fun m => by
    show (m == (n : Int)) = _
    rw [Bool.eq_iff_iff, beq_iff_eq, decide_eq_true_iff]
    exact ⟨fun h => h.symm, fun h => h.symm⟩
  rw [h, h, Bool.or_false]
  congr 1
  · exact decide_eq_decide.mpr ⟨fun h => by omega, fun h => by omega⟩
  · exact decide_eq_decide.mpr ⟨fun h => by omega, fun h => by omega⟩
theorem in23_no {n : Nat} (e : (!inV (.int (n : Nat)) [.int 2, .int 3]) = true) : n ≠ 2 ∧ n ≠ 3 := by
  rw [in23] at e
  have e' := nb e
  rw [Bool.or_eq_false_iff, decide_eq_false_iff_not, decide_eq_false_iff_not] at e'
  exact e'
theorem in23_yes {n : Nat} (e : (!inV (.int (n : Nat)) [.int 2, .int 3]) = false) : n = 2 ∨ n = 3 := by
  rw [in23] at e
  have e' := nb' e
  rw [Bool.or_eq_true, decide_eq_true_iff, decide_eq_true_iff] at e'
  exact e'
end Fld
namespace Fld
open PySem PySem.Spec PyProof.Rows L2
theorem decS {a b : Str} : decide (V.str a = V.str b) = isS (.str a) b := by
  show _ = decide (a = b)
  exact decide_eq_decide.mpr ⟨fun h => by injection h, fun h => by rw [h]⟩
theorem isS_no {d : PyData} {z : Str} (e : subT (tyD d) "str" = false) : isS d z = false := by
  rw [sub_str] at e
  cases d <;> first | rfl | cases e
theorem isS_eq {d : PyData} {a b : Str} (e : isS d a = true) (h : decide (a = b) = false) : isS d b = false := by
  rw [isS_str e]; exact h
end Fld
/-! tuples by their data: slices, +, *, turned about -/
namespace Fld
open PySem PySem.Spec PyProof.Rows L2
section
variable {K : PySem.W.Frag} {S : List Addr} {H : Hp} {v u : V} {ds es : List PyData} {Q : VK}
theorem slA_to (k : Nat) (h : Dv K (OffS S H) v (.tuple ds)) (hS : Hid S H) (q : ∀ r H', Same H H' → Dv K (OffS S H') r (.tuple (ds.take k)) → Q r H') : rSlA K v none (some (k : Int)) H Q := by
  obtain ⟨a, xs, rfl, hs, ha⟩ := h.sTup
  have hl := ha.len
  refine ⟨a, xs, rfl, (off_sub S H).tup hs, fun w => ?_, fun _ p hp => ?_⟩
  · have h2 := w.2
    rw [HT.sIx_nat] at h2
    have hk : ds.take k = ds := List.take_of_length_le (by omega)
    refine q _ H (Same.refl _) ?_
    rw [hk]; exact .tup hs ha
  · rw [cut_to]
    exact q _ _ (Same.new hp) (new_tup hp hS (ha.take k))
theorem slA_from (k : Nat) (h : Dv K (OffS S H) v (.tuple ds)) (hS : Hid S H) (q : ∀ r H', Same H H' → Dv K (OffS S H') r (.tuple (ds.drop k)) → Q r H') : rSlA K v (some (k : Int)) none H Q := by
  obtain ⟨a, xs, rfl, hs, ha⟩ := h.sTup
  have hl := ha.len
  refine ⟨a, xs, rfl, (off_sub S H).tup hs, fun w => ?_, fun _ p hp => ?_⟩
  · have h2 := w.1
    rw [HT.sIx_nat] at h2
    refine q _ H (Same.refl _) ?_
    rcases Nat.eq_zero_or_pos k with h0 | h0
    · rw [h0, List.drop_zero]; exact .tup hs ha
    · have hx : xs = [] := List.length_eq_zero_iff.mp (by omega)
      subst hx
      cases ha
      rw [List.drop_nil]
      exact .tup hs .nil
  · rw [cut_from]
    exact q _ _ (Same.new hp) (new_tup hp hS (ha.drop k))
theorem catA (h : Dv K (OffS S H) v (.tuple ds)) (h2 : Dv K (OffS S H) u (.tuple es)) (hS : Hid S H) (hz : ds.length + es.length ≤ sizeLine) (q : ∀ r H', Same H H' → Dv K (OffS S H') r (.tuple (ds ++ es)) → Q r H') : rCatA K v u H Q := by
  obtain ⟨a, xs, rfl, hs, ha⟩ := h.sTup
  obtain ⟨b, ys, rfl, hs2, ha2⟩ := h2.sTup
  have hl := ha.len
  have hl2 := ha2.len
  refine ⟨a, b, xs, ys, rfl, rfl, (off_sub S H).tup hs, (off_sub S H).tup hs2, by omega, fun e => ?_, fun _ e => ?_, fun _ _ p hp => ?_⟩
  · subst e
    cases ha
    exact q _ H (Same.refl _) (.tup hs2 ha2)
  · subst e
    cases ha2
    refine q _ H (Same.refl _) ?_
    rw [List.append_nil]
    exact .tup hs ha
  · exact q _ _ (Same.new hp) (new_tup hp hS (ha.app ha2))
theorem repA {d : PyData} (k : Nat) (h : Dv K (OffS S H) v (.tuple [d])) (hS : Hid S H) (h2 : 2 ≤ k) (hk : k ≤ 1000) (q : ∀ r H', Same H H' → Dv K (OffS S H') r (.tuple (List.replicate k d)) → Q r H') : rRepT K v (.int (k : Int)) H Q := by
  obtain ⟨a, xs, rfl, hs, ha⟩ := h.sTup
  cases ha with
  | cons h1 t =>
    cases t
    rename_i x
    refine ⟨a, k, [x], rfl, rfl, (off_sub S H).tup hs, by simp, by omega, by omega, by show 1 ≤ 1000; decide, fun p hp => ?_⟩
    rw [Int.toNat_natCast]
    have e : (List.replicate k [x]).flatten = List.replicate k x := by
      clear hk h2 q
      induction k with
      | zero => rfl
      | succ n ih => rw [List.replicate_succ, List.flatten_cons, ih, List.replicate_succ]; rfl
    rw [e]
    exact q _ _ (Same.new hp) (new_tup hp hS (DvAll.rep h1 k))
theorem DvAll.rev {K : PySem.W.Frag} {H : Hp} : ∀ {xs : List V} {ds : List PyData}, DvAll K H xs ds → DvAll K H xs.reverse ds.reverse
  | _, _, .nil => .nil
  | _, _, .cons h t => by
    rw [List.reverse_cons, List.reverse_cons]
    exact (DvAll.rev t).app (.cons h .nil)
end
/-- a tuple's items but one -/
theorem depthAll_app {k : Nat} {xs ys : List PyData} (h1 : PyData.depthAll xs ≤ k) (h2 : PyData.depthAll ys ≤ k) : PyData.depthAll (xs ++ ys) ≤ k := depthAll_le fun d hd => by
  rcases List.mem_append.mp hd with h | h
  · exact Nat.le_trans (depthAll_mem h) h1
  · exact Nat.le_trans (depthAll_mem h) h2
theorem depthAll_take {k : Nat} {xs : List PyData} (n : Nat) (h : PyData.depthAll xs ≤ k) : PyData.depthAll (xs.take n) ≤ k := depthAll_le fun d hd => Nat.le_trans (depthAll_mem (List.mem_of_mem_take hd)) h
theorem depthAll_drop {k : Nat} {xs : List PyData} (n : Nat) (h : PyData.depthAll xs ≤ k) : PyData.depthAll (xs.drop n) ≤ k := depthAll_le fun d hd => Nat.le_trans (depthAll_mem (List.mem_of_mem_drop hd)) h
theorem okVAll_take {xs : List PyData} (n : Nat) (h : okVAll xs = true) : okVAll (xs.take n) = true := okVAll_of fun d hd => okVAll_mem h (List.mem_of_mem_take hd)
theorem okVAll_drop {xs : List PyData} (n : Nat) (h : okVAll xs = true) : okVAll (xs.drop n) = true := okVAll_of fun d hd => okVAll_mem h (List.mem_of_mem_drop hd)
theorem okVAll_app' {xs ys : List PyData} (h1 : okVAll xs = true) (h2 : okVAll ys = true) : okVAll (xs ++ ys) = true := by rw [okVAll_app, h1, h2]; rfl
theorem wVAll_cut {ds : List PyData} {k : Nat} {d : PyData} (h : ds[k]? = some d) : wVAll (ds.take k) + (wV d + 2) + wVAll (ds.drop (k + 1)) = wVAll ds := by
  have hk := (List.getElem?_eq_some_iff.mp h)
  have e : ds = ds.take k ++ (d :: ds.drop (k + 1)) := by
    rw [← hk.2, ← List.drop_eq_getElem_cons hk.1, List.take_append_drop]
  have e2 : wVAll ds = wVAll (ds.take k ++ (d :: ds.drop (k + 1))) := congrArg wVAll e
  rw [wVAll_app, wVAll] at e2
  omega
theorem wVAll_rep (d : PyData) : ∀ k : Nat, wVAll (List.replicate k d) = k * (wV d + 2)
  | 0 => by rw [List.replicate_zero, wVAll]; omega
  | k + 1 => by rw [List.replicate_succ, wVAll, wVAll_rep d k, Nat.succ_mul]; omega
theorem wVAll_rev : ∀ ds : List PyData, wVAll ds.reverse = wVAll ds
  | [] => rfl
  | d :: ds => by
    rw [List.reverse_cons, wVAll_app, wVAll_rev ds, wVAll, wVAll, wVAll]; omega
theorem okVAll_rep {d : PyData} (h : okV d = true) (k : Nat) : okVAll (List.replicate k d) = true := okVAll_of fun x hx => by rw [(List.mem_replicate.mp hx).2]; exact h
theorem depthAll_rep {n : Nat} {d : PyData} (h : d.depth ≤ n) (k : Nat) : PyData.depthAll (List.replicate k d) ≤ n := depthAll_le fun x hx => by rw [(List.mem_replicate.mp hx).2]; exact h
theorem okVAll_rev {ds : List PyData} (h : okVAll ds = true) : okVAll ds.reverse = true := okVAll_of fun x hx => okVAll_mem h (List.mem_reverse.mp hx)
theorem depthAll_rev {n : Nat} {ds : List PyData} (h : PyData.depthAll ds ≤ n) : PyData.depthAll ds.reverse ≤ n := depthAll_le fun x hx => Nat.le_trans (depthAll_mem (List.mem_reverse.mp hx)) h
def sp_bentT (K : PySem.W.Frag) (M : Nat) : Sp := fun vs H Q _ => ∃ (p c : Addr) (n : Nat) (v : V) (d : PyData) (b e : Nat) (S : List Addr), vs = [.ref p, v] ∧ Pen H p c n ∧ n + 100 * (e + 1) ≤ 600000 ∧ p ∈ S ∧ Hid S H ∧ Dv K (OffS S H) v d ∧ Sz b e d ∧ e ≤ M ∧ M ≤ 20 ∧ b ≤ 500000 ∧
  ∀ (v' : V) (d' : PyData) H', Dv K (OffS S H') v' d' → Sz (18 * b + 2000) (e + 1) d' → Drew p c H H' (n + 100 * (e + 1)) → Q v' H'
def sp_bentT_sub (K : PySem.W.Frag) : Nat → Sp
  | 0 => fun _ _ _ _ => False
  | m + 1 => sp_bentT K m
/-! data without lists, apart from the pen -/
mutual
def noLst : PyData → Bool
  | .list _ => false
  | .tuple xs => noLstAll xs
  | .dict _ => false
  | _ => true
def noLstAll : List PyData → Bool
  | [] => true
  | x :: xs => noLst x && noLstAll xs
end
theorem sqT_off {K : PySem.W.Frag} {H : Hp} {a p : Addr} {xs : List V} {ys : List V} (h : SqT K H a xs) (hp : H p = some (.lst ys)) : SqT K (OffS [p] H) a xs := by
  rcases h with (h | ⟨o, h⟩) | h
  · have n : a ∉ [p] := fun z => by rw [List.mem_singleton.mp z, hp] at h; cases h
    exact .inl (.inl (by rw [off_ne n]; exact h))
  · have n : a ∉ [p] := fun z => by rw [List.mem_singleton.mp z, hp] at h; cases h
    exact .inl (.inr ⟨o, by rw [off_ne n]; exact h⟩)
  · exact .inr h
mutual
theorem dp_off {K : PySem.W.Frag} {H : Hp} {p : Addr} {ys : List V} (hp : H p = some (.lst ys)) : ∀ {v : V} {d : PyData}, Dp K H v d → noLst d = true → Dv K (OffS [p] H) v d
  | _, _, .non, _ => .non
  | _, _, .bl b, _ => .bl b
  | _, _, .int i, _ => .int i
  | _, _, .str x, _ => .str x
  | _, _, .lst h a, n => by simp [noLst] at n
  | _, _, .tup h a, n => .tup (sqT_off h hp) (dpAll_off hp a (by simpa [noLst] using n))
theorem dpAll_off {K : PySem.W.Frag} {H : Hp} {p : Addr} {ys : List V} (hp : H p = some (.lst ys)) : ∀ {vs : List V} {ds : List PyData}, DpAll K H vs ds → noLstAll ds = true → DvAll K (OffS [p] H) vs ds
  | _, _, .nil, _ => .nil
  | _, _, .cons h t, n => by
    rw [noLstAll, Bool.and_eq_true] at n
    exact .cons (dp_off hp h n.1) (dpAll_off hp t n.2)
end
end Fld
/-! list(enumerate(t)), t a tuple -/
namespace PySem
open Sem (wp)
open PySem.W (kdx_alive)
section
variable {prog : Program} {w : World} {A : Around} {E : Value → Shared → Prop} {s : Shared}
theorem meets_enumerate_new1 {v : Value} {o : Obj} {H : Heap → Prop} (B : Begins v o H) :
    Meets (Builtin.«enumerate.__new__» ⟨[.type "enumerate", v], []⟩) (fun _ R s => H s.heap ∧
      R (.ok (.ret (.ref (s.heap.push o).objs.size))) { s with heap := (s.heap.push o).push { cls := .type "enumerate", data := .fields #[.none, .bool false, .ref s.heap.objs.size, rawInt 0, .none, .none] } }) :=
  .of_wp fun prog w A R s h => by
    obtain ⟨hp, g, d, tk, os⟩ := s; obtain ⟨h1, h⟩ := h
    have hsub := sub_enumerate
    have q1 : ∀ {A' : Around} {E : Value → Shared → Prop} {Q : Value → Shared → Prop}, Q (.ref hp.objs.size) ⟨hp.push o, g, d, tk, os⟩ → wpAny (model prog w) A' (pyIter v) Q E ⟨hp, g, d, tk, os⟩ :=
      fun q => B.iter prog w _ _ ⟨hp, g, d, tk, os⟩ _ h1 q
    wp_walk using q1
    refine wpAny_stack_any fun st => wpAny_pure ?_
    split
    · rename_i c _ _ _ _ _
      cases (c == Value.type "enumerate")
      · wp_walk using q1
        exact ⟨_, rfl, h⟩
      · wp_walk using q1
        exact ⟨_, rfl, h⟩
    · wp_walk using q1
      exact ⟨_, rfl, h⟩
theorem call_enumerate_B {v : Value} {o : Obj} {H : Heap → Prop} (B : Begins v o H) {Q : Value → Shared → Prop} (h1 : H s.heap)
    (h : ∀ h', IsEnum h' (s.heap.objs.size + 1) s.heap.objs.size 0 .none → h'.get? s.heap.objs.size = some o → h'.objs.size = s.heap.objs.size + 2 →
      (∀ b o, s.heap.get? b = some o → h'.get? b = some o) → Q (.ref (s.heap.objs.size + 1)) { s with heap := h' }) :
    wpAny (model prog w) A (call (.type "enumerate") [v]) Q E s := by
  refine callType_new F.called_enumerate (by decide) (F.typeCall_enumerate_1 _) (F.newCall_enumerate_1 _) (fun obj => F.args_object_init_2 obj _) F.entry_enumerate_new
    (meets_enumerate_new1 B) ⟨h1, ?_⟩
  have hz : (s.heap.push o).objs.size = s.heap.objs.size + 1 := Heap.size_push ..
  show _ ∧ _
  rw [hz]
  have he : IsEnum ((s.heap.push o).push { cls := .type "enumerate", data := .fields #[.none, .bool false, .ref s.heap.objs.size, rawInt 0, .none, .none] }) (s.heap.objs.size + 1) s.heap.objs.size 0 .none := by
    have := Heap.get?_push_size (s.heap.push o) (o := { cls := .type "enumerate", data := .fields #[.none, .bool false, .ref s.heap.objs.size, rawInt 0, .none, .none] }) rfl
    rw [hz] at this; exact this
  refine ⟨⟨_, he, rfl⟩, h _ he (Heap.get?_push_of_some _ (Heap.get?_push_size _ B.free)) (by rw [Heap.size_push, hz]) fun b o x => Heap.get?_push_of_some _ (Heap.get?_push_of_some _ x)⟩
theorem enl_item_held {e it T : Addr} {fp : List Addr} {n i : Nat} {c : Int} {P : Nat → Value → Prop} {St : Nat → Heap → Prop} {old : Value} {f : Bool} {oT : Obj} {Q : Value → Shared → Prop}
    (D : Draws prog w A it fp n P St) (he : IsEnumHeld s.heap e it c old T f) (hT : s.heap.get? T = some oT) (hTe : T ≠ e) (hTi : T ≠ it) (hst : St i s.heap) (hlt : i < n) (hne : e ≠ it) (hef : e ∉ fp)
    (hQ : ∀ x h' tk, P i x → IsEnumHeld h' e it (c + 1) old T true → St (i + 1) h' →
      h'.get? s.heap.objs.size = some { cls := .type "tuple", data := .seq #[.int c tk, x] } → h'.objs.size = s.heap.objs.size + 1 →
      (∀ b o, b ≠ e → b ≠ it → s.heap.get? b = some o → h'.get? b = some o) → Q (.ref s.heap.objs.size) { s with heap := h', toks := tk + 1 }) :
    wpAny (model prog w) A (Builtin.«enumerate.__next__» ⟨[.ref e], []⟩) (fun fin s' => ∃ v, fin = .done (.ret v) ∧ Q v s') E s := by
  obtain ⟨hp, g, d, tk₀, os⟩ := s
  show wpAny _ _ (field (.ref e) 2 >>= _) _ _ _
  refine wpAny_bind (wpAny_field he rfl (x := .ref it) rfl ?_)
  refine wpAny_bind (D.item i _ _ _ hlt hst fun x h₁ tk hPx hit₁ hs₁ => ?_)
  replace hs₁ : Heap.SameBut it hp h₁ := hs₁
  have he₁ : IsEnumHeld h₁ e it c old T f := (hs₁.2 e hne).trans he
  show wpAny _ _ (field (.ref e) 3 >>= _) _ _ ⟨h₁, g, d, tk, os⟩
  refine wpAny_bind (wpAny_field he₁ rfl (x := rawInt c) rfl ?_)
  show wpAny _ _ (field (.ref e) 4 >>= _) _ _ ⟨h₁, g, d, tk, os⟩
  refine wpAny_bind (wpAny_field he₁ rfl (x := .none) rfl ?_)
  show wpAny _ _ (mkInt c >>= _) _ _ ⟨h₁, g, d, tk, os⟩
  refine wpAny_bind (wpAny_mkInt ?_)
  show wpAny _ _ (setField (.ref e) 3 (rawInt (c + 1)) >>= _) _ _ ⟨h₁, g, d, tk + 1, os⟩
  refine wpAny_bind (wpAny_setField_rec he₁ (by simp) fun h₂ he₂ hs₂ => ?_)
  replace hs₂ : Heap.SameBut e h₁ h₂ := hs₂
  replace he₂ : IsEnumHeld h₂ e it (c + 1) old T f := he₂
  show wpAny _ _ (setField (.ref e) 4 .none >>= _) _ _ ⟨h₂, g, d, tk + 1, os⟩
  refine wpAny_bind (wpAny_setField_rec he₂ (by simp) fun h₃ he₃ hs₃ => ?_)
  replace hs₃ : Heap.SameBut e h₂ h₃ := hs₃
  replace he₃ : IsEnumHeld h₃ e it (c + 1) old T f := he₃
  show wpAny _ _ (newTuple [.int c tk, x] >>= _) _ _ ⟨h₃, g, d, tk + 1, os⟩
  refine wpAny_bind (wpAny_newTuple ?_)
  have he₄ : IsEnumHeld (h₃.push { cls := .type "tuple", data := .seq #[.int c tk, x] }) e it (c + 1) old T f := Heap.get?_push_of_some _ he₃
  generalize hh₄ : h₃.push { cls := .type "tuple", data := .seq #[.int c tk, x] } = h₄ at he₄
  have hsz : h₃.objs.size = hp.objs.size := by rw [hs₃.1, hs₂.1, hs₁.1]
  have hel : e < hp.objs.size := Heap.lt_size he
  have ht₄ : h₄.get? hp.objs.size = some { cls := .type "tuple", data := .seq #[.int c tk, x] } := by rw [← hh₄, ← hsz]; exact Heap.get?_push_size _ rfl
  have hz₄ : h₄.objs.size = hp.objs.size + 1 := by rw [← hh₄, Heap.size_push, hsz]
  have hk₄ : ∀ b o, b ≠ e → b ≠ it → hp.get? b = some o → h₄.get? b = some o := fun b o hbe hbi hb => by
    rw [← hh₄]; exact Heap.get?_push_of_some _ (hs₃.extBut b o hbe (hs₂.extBut b o hbe (hs₁.extBut b o hbi hb)))
  have hit₄ : St (i + 1) h₄ := D.frame _ _ _ hit₁ fun b hb o y => by
    have hbe : b ≠ e := fun q => hef (q ▸ hb)
    rw [← hh₄]; exact Heap.get?_push_of_some _ (hs₃.extBut b o hbe (hs₂.extBut b o hbe y))
  show wpAny _ _ (Builtin.SmallTypes.ownedTupleIsFree (.ref e) >>= _) _ _ ⟨h₄, g, d, tk + 1, os⟩
  rw [hsz]
  clear hh₄ he₃ hs₃ he₂ hs₂ he₁ hs₁ hit₁ hsz h₃ h₂ h₁
  refine wpAny_bind (wpAny_tupleHeld_enum (s := ⟨h₄, g, d, tk + 1, os⟩) he₄ (hk₄ T oT hTe hTi hT) fun h₅ he₅ hs₅ => ?_)
  replace hs₅ : Heap.SameBut e h₄ h₅ := hs₅
  simp only [Bool.false_eq_true, if_false]
  refine wpAny_pure ⟨_, rfl, hQ x h₅ tk hPx he₅ ?_ (hs₅.extBut _ _ (Nat.ne_of_gt hel) ht₄) ?_ fun b o hbe hbi hb => hs₅.extBut b o hbe (hk₄ b o hbe hbi hb)⟩
  · exact D.frame _ _ _ hit₄ fun b hb o y => hs₅.extBut b o (fun q => hef (q ▸ hb)) y
  · show h₅.objs.size = hp.objs.size + 1
    rw [hs₅.1, hz₄]
/-- the count stands at i; what was given out last is held -/
def EnSt (h : Heap) (e it S : Addr) (i : Nat) : Prop :=
  (∃ old, IsEnum h e it (i : Nat) old) ∨ ∃ T old f oT, IsEnumHeld h e it (i : Nat) old T f ∧ h.get? T = some oT ∧ T ≠ e ∧ T ≠ it ∧ T ≠ S
theorem EnSt.keep {h h' : Heap} {e it S : Addr} {i : Nat} (x : EnSt h e it S i) (hk : ∀ b o, b ≠ S → h.get? b = some o → h'.get? b = some o) (he : e ≠ S) : EnSt h' e it S i := by
  rcases x with ⟨old, q⟩ | ⟨T, old, f, oT, q, hT, h1, h2, h3⟩
  · exact .inl ⟨old, hk _ _ he q⟩
  · exact .inr ⟨T, old, f, oT, hk _ _ he q, hk _ _ h3 hT, h1, h2, h3⟩
theorem enl_next {e it S : Addr} {fp : List Addr} {n i : Nat} {P : Nat → Value → Prop} {St : Nat → Heap → Prop} {Q : Option Value → Shared → Prop}
    (D : Draws prog w A.in1 it fp n P St) (he : EnSt s.heap e it S i) (hS : S < s.heap.objs.size) (hil : it < s.heap.objs.size) (hst : St i s.heap) (hlt : i < n) (hne : e ≠ it) (hef : e ∉ fp)
    (hQ : ∀ x h' tk, P i x → EnSt h' e it S (i + 1) → St (i + 1) h' →
      h'.get? s.heap.objs.size = some { cls := .type "tuple", data := .seq #[.int (i : Nat) tk, x] } → h'.objs.size = s.heap.objs.size + 1 →
      (∀ b o, b ≠ e → b ≠ it → s.heap.get? b = some o → h'.get? b = some o) → Q (some (.ref s.heap.objs.size)) { s with heap := h', toks := tk + 1 }) :
    wpAny (model prog w) A (pyNext (.ref e)) Q E s := by
  have ei : ((i + 1 : Nat) : Int) = (i : Int) + 1 := by omega
  rcases he with ⟨old, he⟩ | ⟨T, old, f, oT, he, hT, h1, h2, h3⟩
  · refine wpAny_pyNext_enum_itemC D he hst hlt hne hef fun x h' tk a b c d k q => hQ x h' tk a (.inr ⟨_, x, false, _, by rw [ei]; exact b, d, Nat.ne_of_gt (Heap.lt_size he), Nat.ne_of_gt hil, Nat.ne_of_gt hS⟩) c d k q
  · have hTy : s.TypeIs (.ref e) "enumerate" := ⟨_, he, rfl⟩
    unfold pyNext
    exact wpAny_bind (wpAny_attempt (wpAny_callSpecial?_slot (name := Str.ofString "__next__") hTy F.slot_enumerate_next
      (wpAny_call_entry F.slot_enumerate_next hTy F.entry_enumerate_next
        (enl_item_held D he hT h1 h2 hst hlt hne hef fun x h' tk a b c d k q => wpAny_pure (hQ x h' tk a (.inr ⟨T, old, true, oT, by rw [ei]; exact b, q T oT h1 h2 hT, h1, h2, h3⟩) c d k q)) (F.args_enumerate_next_1 _))))
theorem enl_done {e it S : Addr} {fp : List Addr} {n i : Nat} {P : Nat → Value → Prop} {St : Nat → Heap → Prop} {Q : Option Value → Shared → Prop}
    (D : Draws prog w A.in1 it fp n P St) (he : EnSt s.heap e it S i) (hst : St n s.heap)
    (hQ : ∀ h', Heap.ExtBut it s.heap h' → Q none { s with heap := h' }) : wpAny (model prog w) A (pyNext (.ref e)) Q E s := by
  rcases he with ⟨old, he⟩ | ⟨T, old, f, oT, he, hT, h1, h2, h3⟩
  · exact wpAny_pyNext_enum_endD D he hst hQ
  · have hTy : s.TypeIs (.ref e) "enumerate" := ⟨_, he, rfl⟩
    unfold pyNext
    refine wpAny_bind (wpAny_attempt (wpAny_callSpecial?_slot (name := Str.ofString "__next__") hTy F.slot_enumerate_next
      (wpAny_call_entry F.slot_enumerate_next hTy F.entry_enumerate_next ?_ (F.args_enumerate_next_1 _))))
    show wpAny _ _ (field (.ref e) 2 >>= _) _ _ _
    refine wpAny_bind (wpAny_field he rfl (x := .ref it) rfl ?_)
    refine wpAny_bind (D.done _ _ _ hst fun h' x he' hx' => ?_)
    obtain ⟨o, ho, hc⟩ := hx'
    refine wpAny_bind (wpAny_isInstance (T := "StopIteration") (b := true) ⟨o, ho, hc⟩ isSubtype_stop ?_)
    exact wpAny_pure (hQ _ he')
theorem enl_no_len : typeLookup (.type "enumerate") "__len__" = pure none := by rw [typeLookup_type, builtinLookup_eq_fast]; kernel_rfl
theorem enl_no_hint : typeLookup (.type "enumerate") "__length_hint__" = pure none := by rw [typeLookup_type, builtinLookup_eq_fast]; kernel_rfl
end
end PySem
namespace L2
open PySem PySem.Spec PyProof.Rows
/-- the pairs told so far -/
structure EnP (xs : List V) (H0 H : Hp) (q : Addr) (i : Nat) : Prop where
  ex : ∃ ts : List Addr, ts.length = i ∧ H q = some (.lst (ts.map V.ref)) ∧ ∀ (j : Nat) (t : Addr) (x : V), ts[j]? = some t → xs[j]? = some x → H t = some (.tup [.int (j : Nat), x])
  same : Same H0 H
theorem EnP.step {xs : List V} {H0 H : Hp} {q T : Addr} {i : Nat} {x : V} (h : EnP xs H0 H q i) (hq : H0 q = none) (hT : H T = none) (hx : xs[i]? = some x) {ys : List V} (hl : H q = some (.lst ys)) :
    EnP xs H0 (upd (upd H T (.tup [.int (i : Nat), x])) q (.lst (ys ++ [.ref T]))) q (i + 1) := by
  obtain ⟨⟨ts, hts, e1, hp⟩, hs⟩ := h
  rw [hl] at e1
  injection e1 with e1
  injection e1 with e1
  subst e1
  have hqT : q ≠ T := fun z => by rw [z, hT] at hl; cases hl
  refine ⟨⟨ts ++ [T], by rw [List.length_append, hts]; rfl, by rw [upd_same, List.map_append]; rfl, fun j t y hj hy => ?_⟩, fun b u hb => ?_⟩
  · rcases Nat.lt_trichotomy j ts.length with h1 | h1 | h1
    · rw [List.getElem?_append_left h1] at hj
      have e := hp j t y hj hy
      have n1 : t ≠ q := fun z => by rw [z, hl] at e; cases e
      have n2 : t ≠ T := fun z => by rw [z, hT] at e; cases e
      rw [upd_ne n1, upd_ne n2]; exact e
    · subst h1
      have et : T = t := by simpa using hj
      subst et
      rw [hts, hx] at hy
      injection hy with hy
      subst hy
      rw [upd_ne (Ne.symm hqT), upd_same, hts]
    · rw [List.getElem?_eq_none (by rw [List.length_append, List.length_singleton]; omega)] at hj
      cases hj
  · have n1 : b ≠ q := fun z => by rw [z, hq] at hb; cases hb
    have e := hs b u hb
    have n2 : b ≠ T := fun z => by rw [z, hT] at e; cases e
    show upd (upd H T _) q _ b = some u
    rw [upd_ne n1, upd_ne n2]; exact e
section
variable {X : Cx} {pins : List (Addr × Obj)} {σ : St} {A1 : Around}
theorem enl_loop {a e it q : Addr} {xs : List V} {H0 : Hp} {Rs : Result → Shared → Prop} (hh : A1.handled = none) (hne : e ≠ it) (hqe : e ≠ q) (hqi : it ≠ q) (hs : SqT X.K H0 a xs) (hia : a ≠ it) (hea : e ≠ a) (hn : xs.length ≤ 1000) (hq0 : H0 q = none)
    (hdone : ∀ H' s', Inv X pins σ H' s' → EnP xs H0 H' q xs.length → Rs (.ok (.ret .none)) s') :
    ∀ (k i : Nat) (H : Hp) (s : Shared), xs.length - i = k → i ≤ xs.length → Inv X pins σ H s → EnP xs H0 H q i → EnSt s.heap e it q i → s.heap.IsTupleIter it a i → (∀ b ∈ [e, it], FpOk X pins H b) →
      codeAny (model X.prog X.w) A1 (.builtin "list.extend.loop" ⟨[.ref q, .ref e, .none], []⟩) Rs s := by
  intro k
  induction k with
  | zero =>
    intro i H s hk hi I hP hE hit hf
    have hin : i = xs.length := by omega
    obtain ⟨its, rv, p, hz⟩ := I.tuple (hP.same.tup hs)
    have hl := rv.length
    refine codeAny_builtin PySem.F.entry_extend_loop ?_
    rw [Around.under_plainId PySem.F.plain_extend_loop _]
    show wpAny _ A1.in1 (pyNext (.ref e) >>= _) _ _ s
    have D := Draws.tuple (prog := X.prog) (w := X.w) (A := A1.in1.in1) hh it a hia its.toArray
    refine wpAny_bind (enl_done D hE (by rw [List.size_toArray, ← hl, ← hin]; exact ⟨hit, p⟩) fun h' eb => ?_)
    obtain ⟨f0, f1, f2, f3, f4, f5⟩ := hf it (by simp)
    refine wpAny_pure (hdone H _ (I.turned (t' := s.toks) (fun b o hb q => eb b o hb q) f0 f1 f3 f4 f5) ?_)
    rw [← hin]; exact hP
  | succ k ih =>
    intro i H s hk hi I hP hE hit hf
    have hlt : i < xs.length := by omega
    obtain ⟨its, rv, p, hz⟩ := I.tuple (hP.same.tup hs)
    have hl := rv.length
    obtain ⟨x, hx⟩ : ∃ x, xs[i]? = some x := ⟨xs[i], List.getElem?_eq_getElem hlt⟩
    obtain ⟨⟨ts, hts, hq, hpr⟩, hsm⟩ := id hP
    have hlq := (I.lstM hq)
    have hqs : q < s.heap.objs.size := by obtain ⟨z, its, kk, r2, hl, ee⟩ := hlq; exact Heap.lt_size ee
    have hils : it < s.heap.objs.size := by obtain ⟨_, q, _⟩ := hit; exact Heap.lt_size q
    have hes : e < s.heap.objs.size := by
      rcases hE with ⟨_, z⟩ | ⟨_, _, _, _, z, _⟩
      · exact Heap.lt_size z
      · exact Heap.lt_size z
    refine codeAny_builtin PySem.F.entry_extend_loop ?_
    rw [Around.under_plainId PySem.F.plain_extend_loop _]
    show wpAny _ A1.in1 (pyNext (.ref e) >>= _) _ _ s
    have D := Draws.tuple (prog := X.prog) (w := X.w) (A := A1.in1.in1) hh it a hia its.toArray
    have hef : e ∉ [it, a] := by simp [hne, hea]
    refine wpAny_bind (enl_next D hE hqs hils ⟨hit, p⟩ (by rw [List.size_toArray, ← hl]; exact hlt) hne hef fun u h' tk hu hE' hst' hT hsz hk' => ?_)
    have fr : H s.heap.objs.size = none := I.hok.fresh (Nat.le_refl _)
    obtain ⟨u2, hu2, ru⟩ := rv.get hx
    have eu : u2 = u := by
      have : its[i]? = some u := by simpa using hu
      rw [hu2] at this
      injection this
    subst eu
    have new : ObjOk X.prog X.w (upd H s.heap.objs.size (.tup [.int (i : Nat), x])) h' s.heap.objs.size (.tup [.int (i : Nat), x]) :=
      ⟨by show 2 ≤ sizeLine; decide, [.int i tk, u2], .cons ⟨_, rfl⟩ (.cons ru .nil), ⟨_, hT, rfl, _, rfl⟩⟩
    have I1 : Inv X pins σ (upd H s.heap.objs.size (.tup [.int (i : Nat), x])) { s with heap := h', toks := tk + 1 } :=
      I.turnedNew (t' := tk + 1) (ch := [e, it]) (fun b o hb q => hk' b o (fun z => hb (by simp [z])) (fun z => hb (by simp [z])) q) hf (Nat.le_refl _) new
    have hq1 : upd H s.heap.objs.size (.tup [.int (i : Nat), x]) q = some (.lst (ts.map V.ref)) := by rw [upd_ne (Nat.ne_of_lt hqs)]; exact hq
    obtain ⟨z, its3, kk, r2, hl3, ee⟩ := I1.lstM hq1
    have hl4 := r2.length
    rw [List.length_map] at hl4
    show wpAny _ A1.in1 (updateSeq q (·.push (.ref s.heap.objs.size)) >>= _) _ _ _
    refine wpAny_bind (wpAny_updateSeq ee rfl (wpAny_pure ⟨plainId_quiet PySem.F.plain_extend_loop _, ?_⟩) (by rw [List.size_toArray, sizeLine_eq]; omega) (by show (its3.toArray.push _).size ≤ sizeLine + 1; rw [Array.size_push, List.size_toArray, sizeLine_eq]; omega))
    have oth : ∀ b o, b ≠ q → h'.get? b = some o → (h'.update q (Obj.mapSeq (·.push (Value.ref s.heap.objs.size)))).get? b = some o := fun b o hb e => (Heap.get?_update_other _ _ (Ne.symm hb)).trans e
    refine ih (i + 1) _ _ (by omega) hlt (I1.lset (its' := its3 ++ [.ref s.heap.objs.size]) (t' := tk + 1) hq1 ee (by simp) (r2.append (.cons (show RelV (.ref s.heap.objs.size) (.ref s.heap.objs.size) from rfl) .nil)) (by rw [List.length_append, List.length_map, List.length_singleton, sizeLine_eq]; omega)) (hP.step hq0 fr hx hq) (hE'.keep oth hqe) (hst'.1.at fun o e => oth it o hqi e) fun b hb => ?_
    have hb1 : b ≠ q := by
      have e' : b = e ∨ b = it := by simpa using hb
      rcases e' with z | z
      · rw [z]; exact hqe
      · rw [z]; exact hqi
    have hb2 : b < s.heap.objs.size := by
      have e' : b = e ∨ b = it := by simpa using hb
      rcases e' with z | z
      · rw [z]; exact hes
      · rw [z]; exact hils
    exact ⟨by rw [upd_ne hb1, upd_ne (Nat.ne_of_lt hb2)]; exact (hf b hb).1, (hf b hb).2⟩
/-- nothing is said of the length -/
theorem enl_hint {M : Model} {A : Around} {E : Value → Shared → Prop} {Q : Bool → Shared → Prop} {s : Shared} {e : Addr} (hT : s.TypeIs (.ref e) "enumerate") (h : Q true s) :
    wpAny M A (Builtin.List.listLengthHint (.ref e)) Q E s := by
  unfold Builtin.List.listLengthHint
  refine wpAny_bind (wpAny_specialOf hT enl_no_len ?_)
  show wpAny _ A (specialOf (Value.ref e) (Str.ofString "__length_hint__") >>= _) _ _ _
  refine wpAny_bind (wpAny_specialOf hT enl_no_hint ?_)
  exact wpAny_pure h
/-- list(enumerate(t)) -/
def tEnL (K : PySem.W.Frag) (ta : TA) : TE := fun σ H Q => ta σ H fun vs H1 => ∃ a xs, vs = [.ref a] ∧ SqT K H1 a xs ∧ xs.length ≤ 1000 ∧ ∀ q H', H1 q = none → EnP xs H1 H' q xs.length → Q (.ref q) H'
end
theorem pe_enL {X : Cx} {e : Expr} {ta : TA} {p1 p2 p3 p4 : Pos} (ha : PA X [e] ta) (hgl : Gl X "list") (hml : X.mg "list" = none) (hge : Gl X "enumerate") (hme : X.mg "enumerate" = none) (hc : X.calm = true)
    (h1 : starEach [.Call (.Name "enumerate" p2) [e] [] p3] X.env = [(false, eval (.Call (.Name "enumerate" p2) [e] [] p3) X.env)] := by rfl) (h2 : starEach [e] X.env = [(false, eval e X.env)] := by rfl) :
    PE X (.Call (.Name "list" p1) [.Call (.Name "enumerate" p2) [e] [] p3] [] p4) (tEnL X.K ta) := by
  refine ⟨fun pins s σ H Q I h => wpAny_Call_Name_kw (ld_blt I hgl hml PyProof.Rows.boot_list (PyProof.Rows.callWith_type1 ?_ h1 rfl))⟩
  rw [h1]
  refine Calls.spliced_cons ?_
  refine wpAny_Call_Name_kw (ld_blt I hge hme boot_enumerate (PyProof.Rows.callWith_type1 (thn (ha.run p3 pins s σ H _ I h) fun us s1 ⟨vs, H1, I1, r1, q1⟩ => ?_) h2 rfl))
  obtain ⟨a, xs, ex, hs, hn, q⟩ := q1
  subst ex
  cases r1 with
  | cons r rr =>
    cases rr
    cases r
    obtain ⟨its, rv, p, hz⟩ := I1.tuple hs
    have hp : s1.heap.IsTuple a its.toArray := p
    have hal : a < s1.heap.objs.size := by obtain ⟨_, z, _⟩ := hp; exact Heap.lt_size z
    refine call_enumerate_B (begins_tuple a its.toArray) hp fun h' he hit hsz hk => ?_
    refine Calls.spliced_nil ?_
    have I2 : Inv X pins σ H1 { s1 with heap := h' } := I1.kept (t' := s1.toks) hk
    have fp : ∀ b ∈ [s1.heap.objs.size + 1, s1.heap.objs.size], FpOk X pins H1 b := fun b hb => by
      have e' : b = s1.heap.objs.size + 1 ∨ b = s1.heap.objs.size := by simpa using hb
      have hle : s1.heap.objs.size ≤ b := by
        rcases e' with z | z
        · rw [z]; exact Nat.le_add_right _ _
        · rw [z]; exact Nat.le_refl _
      exact I1.fpOk hle (I1.hok.fresh hle)
    generalize hS1 : ({ s1 with heap := h' } : Shared) = s2 at I2 ⊢
    have e2 : s2.heap = h' := by rw [← hS1]
    rw [← e2] at he hit hsz
    generalize s1.heap.objs.size = it at he hit hsz fp hal
    clear hS1 e2 hk I1 h
    -- list(..)
    refine callType_codes (Q₁ := fun obj s₁ => obj = .ref s2.heap.objs.size ∧ s₁ = { s2 with heap := s2.heap.push { cls := .type "list", data := .seq #[] } }) PySem.F.called_list (PySem.F.typeCall_list_1 _) PySem.F.entry_list_init
      (code_list_new _ ⟨rfl, rfl⟩) fun obj s₁ h₁ => ?_
    obtain ⟨rfl, rfl⟩ := h₁
    have hS : (s2.heap.push { cls := .type "list", data := .seq #[] }).get? s2.heap.objs.size = some { cls := .type "list", data := .seq #[] } := Heap.get?_push_size _ rfl
    refine ⟨⟨_, hS, rfl⟩, PySem.F.args_list_init_2 _ _, ?_⟩
    have fr : H1 s2.heap.objs.size = none := I2.hok.fresh (Nat.le_refl _)
    have I3 : Inv X pins σ (upd H1 s2.heap.objs.size (.lst [])) { s2 with heap := s2.heap.push { cls := .type "list", data := .seq #[] } } := I2.lnew (its := []) (t' := s2.toks) .nil (Nat.zero_le _)
    show wpAny _ _ (do let old ← Builtin.List.listItems (.ref s2.heap.objs.size); Builtin.List.listUpdate (.ref s2.heap.objs.size) (fun _ => #[]); letGo old.toList.reverse; Builtin.List.listExtendWith (.ref s2.heap.objs.size) (.ref (it + 1)) .none) _ _ _
    refine wpAny_bind ?_
    unfold Builtin.List.listItems
    refine wpAny_bind (wpAny_seqItems hS rfl (wpAny_pure ?_))
    show wpAny _ _ (updateSeq s2.heap.objs.size (fun _ => #[]) >>= fun _ => letGo (#[] : Array Value).toList.reverse >>= fun _ => Builtin.List.listExtendWith (.ref s2.heap.objs.size) (.ref (it + 1)) .none) _ _ _
    refine wpAny_bind (wpAny_updateSeq hS rfl ?_)
    have I4 := I3.lset (f := fun _ => #[]) (its := []) (its' := []) (ys := []) (t' := s2.toks) upd_same hS rfl .nil (Nat.zero_le _)
    rw [upd_upd] at I4
    refine wpAny_bind (wpAny_letGo ?_)
    have hS4 := Heap.get?_update_self (Obj.mapSeq (fun _ => (#[] : Array Value))) hS rfl
    have oth : ∀ b o, b ≠ s2.heap.objs.size → s2.heap.get? b = some o → ((s2.heap.push { cls := .type "list", data := .seq #[] }).update s2.heap.objs.size (Obj.mapSeq (fun _ => (#[] : Array Value)))).get? b = some o :=
      fun b o hb e => (Heap.get?_update_other _ _ (Ne.symm hb)).trans (Heap.get?_push_of_some _ e)
    have hie : it + 1 ≠ s2.heap.objs.size := Nat.ne_of_lt (Heap.lt_size he)
    have hii : it ≠ s2.heap.objs.size := Nat.ne_of_lt (Heap.lt_size hit)
    have he4 := oth _ _ hie he
    have hit4 := oth _ _ hii hit
    have hh : X.A.handled = none := I2.ok.hd hc
    have key : ∀ (s5 : Shared), Inv X pins σ (upd H1 s2.heap.objs.size (.lst [])) s5 → IsEnum s5.heap (it + 1) it 0 .none → s5.heap.get? it = some { cls := .type "tuple_iterator", data := .fields #[.ref a, .int 0 0] } →
        codeAny (model X.prog X.w) X.A.in1 (.builtin "list.extend.loop" ⟨[.ref s2.heap.objs.size, .ref (it + 1), .none], []⟩) (wants (fun r s₂ => r = .none ∧ EP X pins σ Q (.ref s2.heap.objs.size) s₂) X.xe) s5 := fun s5 I5 he5 hit5 =>
      enl_loop (X := X) (pins := pins) (σ := σ) (A1 := X.A.in1) (a := a) (e := it + 1) (it := it) (q := s2.heap.objs.size) (xs := xs) (H0 := H1) hh (Nat.succ_ne_self _) hie hii hs (Nat.ne_of_lt hal) (Nat.ne_of_gt (Nat.lt_succ_of_lt hal)) hn fr
        (fun H' s' I' hP => ⟨rfl, .ref s2.heap.objs.size, H', I', rfl, q _ H' fr hP⟩) xs.length 0 _ s5 (Nat.sub_zero _) (Nat.zero_le _) I5
        ⟨⟨[], rfl, upd_same, fun j t x hj => by simp at hj⟩, fun b u hb => by
          have n1 : b ≠ s2.heap.objs.size := fun z => by rw [z, fr] at hb; cases hb
          rw [upd_ne n1]; exact hb⟩ (.inl ⟨_, he5⟩) ⟨_, hit5, rfl, rfl⟩ fun b hb => ⟨by
            have n1 : b ≠ s2.heap.objs.size := by
              have e' : b = it + 1 ∨ b = it := by simpa using hb
              rcases e' with z | z
              · rw [z]; exact hie
              · rw [z]; exact hii
            rw [upd_ne n1]; exact (fp b hb).1, (fp b hb).2⟩
    unfold Builtin.List.listExtendWith
    refine wpAny_bind (wpAny_typeOf (T := "enumerate") ⟨_, he4, rfl⟩ ?_)
    have h1 : Builtin.List.listSameRef (.ref s2.heap.objs.size) (.ref (it + 1)) = false := by simp [Builtin.List.listSameRef, Ne.symm hie]
    have h2 : (Value.type "enumerate" == Value.type "list") = false := by decide
    have h3 : (Value.type "enumerate" == Value.type "tuple") = false := by decide
    simp only [h1, h2, h3, Bool.or_false, Bool.false_eq_true, if_false]
    refine wpAny_bind (wpAny_pyIter_enum he4 ?_)
    refine wpAny_bind (wpAny_holding (enl_hint ⟨_, he4, rfl⟩ ?_))
    refine wpAny_ite_split (fun _ => ?_) (fun _ => wpAny_pure ⟨plainId_quiet PySem.F.plain_extend_loop _, key _ I4 he4 hit4⟩)
    refine wpAny_bind (wpAny_rule ?_)
    refine wpAny_bind ?_
    show wpAny _ _ (updateSeq s2.heap.objs.size (·.push .none) >>= fun _ => updateSeq s2.heap.objs.size (·.pop)) _ _ _
    refine wpAny_bind (wpAny_updateSeq hS4 rfl ?_)
    have I5 := I4.lset (f := (·.push Value.none)) (its' := [Value.none]) (ys := [.non]) (t' := s2.toks) upd_same hS4 (by simp) (.cons rfl .nil) (by rw [List.length_singleton, sizeLine_eq]; decide)
    have hS5 := Heap.get?_update_self (Obj.mapSeq (·.push Value.none)) hS4 rfl
    refine wpAny_updateSeq hS5 rfl ?_ (by show 1 ≤ sizeLine; rw [sizeLine_eq]; decide) (by show 0 ≤ sizeLine + 1; exact Nat.zero_le _)
    have I6 := I5.lset (f := (·.pop)) (its' := []) (ys := []) (t' := s2.toks) upd_same hS5 (by rfl) .nil (Nat.zero_le _)
    rw [upd_upd, upd_upd] at I6
    have oth2 : ∀ {h : Heap} {f : Array Value → Array Value} {b : Addr} {o : Obj}, b ≠ s2.heap.objs.size → h.get? b = some o → (h.update s2.heap.objs.size (Obj.mapSeq f)).get? b = some o := fun hb e => (Heap.get?_update_other _ _ (Ne.symm hb)).trans e
    exact wpAny_pure ⟨plainId_quiet PySem.F.plain_extend_loop _, key _ I6 (oth2 hie (oth2 hie he4)) (oth2 hii (oth2 hii hit4))⟩
end L2
/-! what an instruction, an answer is, over data of any kind -/
namespace Fld
open PySem PySem.Spec PyProof.Rows L2
def dIns : PyData → Bool
  | .tuple [k, n] => [("again" : Str), "limit"].any (fun z => isS k z) && dBtw n 0 9999
  | .tuple [k, n, x] => if isS k "new" then dTxt n 1 20 && dTxt x 0 40 else [("fixed" : Str), "entry"].any (fun z => isS k z) && (dBtw n 0 9999 && dTxt x 0 40)
  | _ => false
def dAns : PyData → Bool
  | .tuple [k, n] => if isS k "received" then dBtw n 1 9999 else [("done" : Str), "cancelled"].any (fun z => isS k z) && dBtw n 0 20
  | _ => false
theorem dIns_no {d : PyData} (e : subT (tyD d) "tuple" = false) : dIns d = false := by
  rw [sub_tup] at e
  cases d <;> first | rfl | cases e
theorem dAns_no {d : PyData} (e : subT (tyD d) "tuple" = false) : dAns d = false := by
  rw [sub_tup] at e
  cases d <;> first | rfl | cases e
theorem dIns_ne {ds : List PyData} (h2 : ds.length ≠ 2) (h3 : ds.length ≠ 3) : dIns (.tuple ds) = false := by
  match ds, h2, h3 with
  | [], _, _ => rfl
  | [_], _, _ => rfl
  | [_, _], h, _ => exact absurd rfl h
  | [_, _, _], _, h => exact absurd rfl h
  | _ :: _ :: _ :: _ :: _, _, _ => rfl
theorem dAns_ne {ds : List PyData} (h2 : ds.length ≠ 2) : dAns (.tuple ds) = false := by
  match ds, h2 with
  | [], _ => rfl
  | [_], _ => rfl
  | [_, _], h => exact absurd rfl h
  | _ :: _ :: _ :: _, _ => rfl
theorem any2 {k : PyData} {a b : Str} (e : [a, b].any (fun z => isS k z) = true) : k = .str a ∨ k = .str b := by
  have e' : (isS k a || (isS k b || false)) = true := e
  rw [Bool.or_false, Bool.or_eq_true] at e'
  rcases e' with h | h
  · exact .inl (isS_str h)
  · exact .inr (isS_str h)
theorem ins_of {K : PySem.W.Frag} {H : Hp} {v : V} {d : PyData} (h : Dv K H v d) (e : dIns d = true) : ∃ i : Ins, InsV K H v i ∧ i.Ok := by
  match d, h, e with
  | .tuple [k, n], h, e =>
    obtain ⟨a, xs, rfl, hs, ha⟩ := h.sTup
    obtain ⟨x0, x1, d0, d1, rfl, e2, h0, h1⟩ := len2 ha (by rw [ha.len]; rfl)
    injection e2 with e3 e4
    injection e4 with e4 _
    subst e3 e4
    have e' : ([("again" : Str), "limit"].any (fun z => isS k z) && dBtw n 0 9999) = true := e
    rw [Bool.and_eq_true] at e'
    obtain ⟨i, rfl, i0, i1⟩ := btw_int e'.2
    obtain ⟨m, rfl⟩ : ∃ m : Nat, i = (m : Int) := ⟨i.toNat, by omega⟩
    have := h1.sInt; subst this
    rcases any2 e'.1 with rfl | rfl
    · have := h0.sStr; subst this
      exact ⟨.again m, ⟨a, rfl, hs⟩, by show m ≤ 9999; omega⟩
    · have := h0.sStr; subst this
      exact ⟨.limit m, ⟨a, rfl, hs⟩, by show m ≤ 9999; omega⟩
  | .tuple [k, n, x], h, e =>
    obtain ⟨a, xs, rfl, hs, ha⟩ := h.sTup
    obtain ⟨x0, x1, x2, d0, d1, d2, rfl, e2, h0, h1, h2⟩ := len3 ha (by rw [ha.len]; rfl)
    injection e2 with e3 e4
    injection e4 with e4 e5
    injection e5 with e5 _
    subst e3 e4 e5
    have e' : (if isS k "new" = true then dTxt n 1 20 && dTxt x 0 40 else [("fixed" : Str), "entry"].any (fun z => isS k z) && (dBtw n 0 9999 && dTxt x 0 40)) = true := e
    by_cases c : isS k "new" = true
    · rw [if_pos c, Bool.and_eq_true] at e'
      obtain ⟨y, rfl, hy⟩ := txt_str e'.1
      obtain ⟨z, rfl, hz⟩ := txt_str e'.2
      have := isS_str c; subst this
      have := h0.sStr; subst this
      have := h1.sStr; subst this
      have := h2.sStr; subst this
      exact ⟨.new y z, ⟨a, rfl, hs⟩, hy, hz⟩
    · rw [if_neg c, Bool.and_eq_true, Bool.and_eq_true] at e'
      obtain ⟨i, rfl, i0, i1⟩ := btw_int e'.2.1
      obtain ⟨z, rfl, hz⟩ := txt_str e'.2.2
      obtain ⟨m, rfl⟩ : ∃ m : Nat, i = (m : Int) := ⟨i.toNat, by omega⟩
      have := h1.sInt; subst this
      have := h2.sStr; subst this
      rcases any2 e'.1 with rfl | rfl
      · have := h0.sStr; subst this
        exact ⟨.fixed m z, ⟨a, rfl, hs⟩, by omega, hz⟩
      · have := h0.sStr; subst this
        exact ⟨.entry m z, ⟨a, rfl, hs⟩, by omega, hz⟩
theorem ans_of {K : PySem.W.Frag} {H : Hp} {v : V} {d : PyData} (h : Dv K H v d) (e : dAns d = true) : ∃ i : Ans, AnsV K H v i ∧ i.Ok := by
  match d, h, e with
  | .tuple [k, n], h, e =>
    obtain ⟨a, xs, rfl, hs, ha⟩ := h.sTup
    obtain ⟨x0, x1, d0, d1, rfl, e2, h0, h1⟩ := len2 ha (by rw [ha.len]; rfl)
    injection e2 with e3 e4
    injection e4 with e4 _
    subst e3 e4
    have e' : (if isS k "received" = true then dBtw n 1 9999 else [("done" : Str), "cancelled"].any (fun z => isS k z) && dBtw n 0 20) = true := e
    by_cases c : isS k "received" = true
    · rw [if_pos c] at e'
      obtain ⟨i, rfl, i0, i1⟩ := btw_int e'
      obtain ⟨m, rfl⟩ : ∃ m : Nat, i = (m : Int) := ⟨i.toNat, by omega⟩
      have := h1.sInt; subst this
      have := isS_str c; subst this
      have := h0.sStr; subst this
      exact ⟨.received m, ⟨a, rfl, hs⟩, by omega, by omega⟩
    · rw [if_neg c, Bool.and_eq_true] at e'
      obtain ⟨i, rfl, i0, i1⟩ := btw_int e'.2
      obtain ⟨m, rfl⟩ : ∃ m : Nat, i = (m : Int) := ⟨i.toNat, by omega⟩
      have := h1.sInt; subst this
      rcases any2 e'.1 with rfl | rfl
      · have := h0.sStr; subst this
        exact ⟨.done m, ⟨a, rfl, hs⟩, by show m ≤ 20; omega⟩
      · have := h0.sStr; subst this
        exact ⟨.cancelled m, ⟨a, rfl, hs⟩, by show m ≤ 20; omega⟩
/-- refused, or not, by the way -/
def sp_refused2 (K : PySem.W.Frag) : Sp := fun vs H Q _ => ∃ (way : Int) (v : V) (d : PyData) (b : Bool), vs = [.int way, v] ∧ ((way = 0 ∧ b = !dIns d) ∨ (way = 1 ∧ b = !dAns d)) ∧ Dv K H v d ∧ Lim d ∧ ∀ H', Same H H' → Q (.bl b) H'
end Fld
namespace Fld
open PySem PySem.Spec PyProof.Rows L2
theorem merge2 {x y : V} : mergeK [] [((.inl 0 : Key), x), (.inl 1, y)] = [((.inl 0 : Key), x), (.inl 1, y)] := rfl
theorem merge3 {x y z : V} : mergeK [] [((.inl 0 : Key), x), (.inl 1, y), (.inl 2, z)] = [((.inl 0 : Key), x), (.inl 1, y), (.inl 2, z)] := rfl
/-- dict(list(enumerate(t))): of two, of three items -/
theorem dic_of {K : PySem.W.Frag} {S : List Addr} {H0 H : Hp} {q : Addr} {xs : List V} {ds : List PyData} (h : EnP xs H0 H q xs.length) (ha : DvAll K (OffS S H0) xs ds) (hS : Hid S H0) (hz : SzAll 0 ds) (hw : wVAll ds ≤ 1500) (h23 : ds.length = 2 ∨ ds.length = 3) :
    ∃ (ts : List Addr) (kvs : List (Key × V)) (d : PyData), H q = some (.lst (ts.map V.ref)) ∧ Paired (fun p kv => SqT K H p [kV kv.1, kv.2]) ts kvs ∧ Sz 5000 1 d ∧ ∀ p, H p = none → Dv K (OffS S (upd H p (.dK (mergeK [] kvs)))) (.ref p) d := by
  obtain ⟨⟨ts, hts, hq, hp⟩, hs⟩ := h
  have ha' := ha.keep hs.off
  have hS' := hS.keep hs
  have zi : ∀ d ∈ ds, Sz (wV d) 0 d := fun d hd => ⟨okVAll_mem hz.1 hd, Nat.le_refl _, Nat.le_trans (depthAll_mem hd) hz.2⟩
  have hl := ha.len
  rcases h23 with e | e
  · obtain ⟨x0, x1, d0, d1, rfl, rfl, h0, h1⟩ := len2 ha' (by omega)
    match ts, hts, hq, hp with
    | [t0, t1], _, hq, hp =>
      rw [wVAll, wVAll, wVAll] at hw
      refine ⟨[t0, t1], [((.inl 0 : Key), x0), (.inl 1, x1)], .dict [(.int 0, d0), (.int 1, d1)], hq, .cons (SqT.of (hp 0 t0 x0 rfl rfl)) (.cons (SqT.of (hp 1 t1 x1 rfl rfl)) .nil), ?_, fun p hpn => ?_⟩
      · refine ⟨?_, ?_, ?_⟩
        · rw [okV, okVKv, okVKv, okVKv, (zi d0 (by simp)).ok, (zi d1 (by simp)).ok]; decide
        · rw [wV, wVKv, wVKv, wVKv, wV, wV]; omega
        · have := (zi d0 (by simp)).dp; have := (zi d1 (by simp)).dp
          simp only [PyData.depth, PyData.depthKv]; omega
      · rw [merge2]
        have s := Same.new (o := .dK [((.inl 0 : Key), x0), (.inl 1, x1)]) hpn
        exact .dic (off_new hpn hS') rfl ((DvAll.cons h0 (.cons h1 .nil)).keep s.off)
  · obtain ⟨x0, x1, x2, d0, d1, d2, rfl, rfl, h0, h1, h2⟩ := len3 ha' (by omega)
    match ts, hts, hq, hp with
    | [t0, t1, t2], _, hq, hp =>
      rw [wVAll, wVAll, wVAll, wVAll] at hw
      refine ⟨[t0, t1, t2], [((.inl 0 : Key), x0), (.inl 1, x1), (.inl 2, x2)], .dict [(.int 0, d0), (.int 1, d1), (.int 2, d2)], hq, .cons (SqT.of (hp 0 t0 x0 rfl rfl)) (.cons (SqT.of (hp 1 t1 x1 rfl rfl)) (.cons (SqT.of (hp 2 t2 x2 rfl rfl)) .nil)), ?_, fun p hpn => ?_⟩
      · refine ⟨?_, ?_, ?_⟩
        · rw [okV, okVKv, okVKv, okVKv, okVKv, (zi d0 (by simp)).ok, (zi d1 (by simp)).ok, (zi d2 (by simp)).ok]; decide
        · rw [wV, wVKv, wVKv, wVKv, wVKv, wV, wV, wV]; omega
        · have := (zi d0 (by simp)).dp; have := (zi d1 (by simp)).dp; have := (zi d2 (by simp)).dp
          simp only [PyData.depth, PyData.depthKv]; omega
      · rw [merge3]
        have s := Same.new (o := .dK [((.inl 0 : Key), x0), (.inl 1, x1), (.inl 2, x2)]) hpn
        exact .dic (off_new hpn hS') rfl ((DvAll.cons h0 (.cons h1 (.cons h2 .nil))).keep s.off)
end Fld
/-! fields, lists of fields, settings, entries: as values and by plain data; what stays while only tuples must stand -/
namespace Fld
open PySem PySem.Spec PyProof.Rows L2
def IsTupO (u : HO) : Prop := (∃ xs, u = .tup xs) ∨ ∃ o xs, u = .frz o (.tup xs)
/-- all tuples stand -/
def TS (H H' : Hp) : Prop := ∀ a u, IsTupO u → H a = some u → H' a = some u
theorem TS.refl (H : Hp) : TS H H := fun _ _ _ e => e
theorem TS.trans {H H1 H2 : Hp} (a : TS H H1) (b : TS H1 H2) : TS H H2 := fun c u t e => b c u t (a c u t e)
theorem TS.of {H H1 : Hp} (s : Same H H1) : TS H H1 := fun c u _ e => s c u e
theorem nt_lst {xs : List V} : ¬ IsTupO (.lst xs) := by
  rintro (⟨_, e⟩ | ⟨_, _, e⟩) <;> cases e
theorem nt_dK {kvs : List (Key × V)} : ¬ IsTupO (.dK kvs) := by
  rintro (⟨_, e⟩ | ⟨_, _, e⟩) <;> cases e
theorem nt_fD {o : Obj} {kvs : List (Key × V)} : ¬ IsTupO (.frz o (.dK kvs)) := by
  rintro (⟨_, e⟩ | ⟨_, _, e⟩) <;> cases e
theorem nt_ins {C d : Addr} {fs : List (Str × V)} : ¬ IsTupO (.ins C d fs) := by
  rintro (⟨_, e⟩ | ⟨_, _, e⟩) <;> cases e
theorem TS.at {H : Hp} {q : Addr} {o o0 : HO} (h : H q = some o0) (n : ¬ IsTupO o0) : TS H (upd H q o) := fun a u t e => by
  by_cases z : a = q
  · subst z; rw [h] at e; cases e; exact absurd t n
  · rw [upd_ne z]; exact e
theorem TS.new {H : Hp} {q : Addr} {o : HO} (h : H q = none) : TS H (upd H q o) := .of (Same.new h)
theorem TS.but {p : Addr} {H H' : Hp} {o0 : HO} (b : But p H H') (h : H p = some o0) (n : ¬ IsTupO o0) : TS H H' := fun a u t e => by
  by_cases z : a = p
  · subst z; rw [h] at e; cases e; exact absurd t n
  · exact b a u z e
theorem TS.drew {p c : Addr} {H H' : Hp} {n m : Nat} (hp : Pen H p c n) (d : Drew p c H H' m) : TS H H' := by
  obtain ⟨⟨xs, e⟩, _⟩ := hp.some
  exact TS.but d.but e nt_lst
theorem TS.tup {K : PySem.W.Frag} {H H' : Hp} {a : Addr} {xs : List V} (t : TS H H') (h : SqT K H a xs) : SqT K H' a xs := by
  rcases h with (h | ⟨o, h⟩) | h
  · exact .inl (.inl (t _ _ (.inl ⟨_, rfl⟩) h))
  · exact .inl (.inr ⟨o, t _ _ (.inr ⟨_, _, rfl⟩) h⟩)
  · exact .inr h
/-! ### fields -/
abbrev Fd := Str × Str
structure FdOk (f : Fd) : Prop where
  n : txt (.str f.1) 1 20 = true
  v : txt (.str f.2) 0 40 = true
def fdat (f : Fd) : PyData := .tuple [.str f.1, .str f.2]
def FdV (K : PySem.W.Frag) (H : Hp) (v : V) (f : Fd) : Prop := ∃ a, v = .ref a ∧ SqT K H a [.str f.1, .str f.2]
abbrev FdsV (K : PySem.W.Frag) (H : Hp) (xs : List V) (F : List Fd) : Prop := Paired (FdV K H) xs F
theorem FdV.ts {K : PySem.W.Frag} {H H' : Hp} {v : V} {f : Fd} (h : FdV K H v f) (t : TS H H') : FdV K H' v f := let ⟨a, e, s⟩ := h; ⟨a, e, t.tup s⟩
theorem pmap {α β : Type} {R S : α → β → Prop} (f : ∀ x y, R x y → S x y) : ∀ {xs : List α} {ys : List β}, Paired R xs ys → Paired S xs ys
  | _, _, .nil => .nil
  | _, _, .cons h t => .cons (f _ _ h) (pmap f t)
theorem FdsV.ts {K : PySem.W.Frag} {H H' : Hp} {xs : List V} {F : List Fd} (h : FdsV K H xs F) (t : TS H H') : FdsV K H' xs F := pmap (fun _ _ z => z.ts t) h
theorem FdV.dp {K : PySem.W.Frag} {H : Hp} {v : V} {f : Fd} (h : FdV K H v f) : Dp K H v (fdat f) := by
  obtain ⟨a, rfl, s⟩ := h
  exact .tup s (.cons (.str _) (.cons (.str _) .nil))
theorem FdsV.dp {K : PySem.W.Frag} {H : Hp} : ∀ {xs : List V} {F : List Fd}, FdsV K H xs F → DpAll K H xs (F.map fdat)
  | _, _, .nil => .nil
  | _, _, .cons h t => .cons h.dp (FdsV.dp t)
theorem p_at {α β : Type} {R : α → β → Prop} : ∀ {xs : List α} {ys : List β} {i : Nat} {x : α}, Paired R xs ys → xs[i]? = some x → ∃ y, ys[i]? = some y ∧ R x y
  | _, _, _, _, .nil, e => by simp at e
  | _, _, 0, _, .cons h _, e => by simp at e; subst e; exact ⟨_, rfl, h⟩
  | _, _, i + 1, x, .cons _ t, e => by
    obtain ⟨y, h1, h2⟩ := p_at (i := i) (x := x) t (by simpa using e)
    exact ⟨y, by simpa using h1, h2⟩
theorem p_at' {α β : Type} {R : α → β → Prop} : ∀ {xs : List α} {ys : List β} {i : Nat} {y : β}, Paired R xs ys → ys[i]? = some y → ∃ x, xs[i]? = some x ∧ R x y
  | _, _, _, _, .nil, e => by simp at e
  | _, _, 0, _, .cons h _, e => by simp at e; subst e; exact ⟨_, rfl, h⟩
  | _, _, i + 1, x, .cons _ t, e => by
    obtain ⟨y, h1, h2⟩ := p_at' (i := i) (y := x) t (by simpa using e)
    exact ⟨y, by simpa using h1, h2⟩
theorem p_app {α β : Type} {R : α → β → Prop} : ∀ {xs zs : List α} {ys us : List β}, Paired R xs ys → Paired R zs us → Paired R (xs ++ zs) (ys ++ us)
  | _, _, _, _, .nil, s => s
  | _, _, _, _, .cons r t, s => .cons r (p_app t s)
theorem p_rev {α β : Type} {R : α → β → Prop} : ∀ {xs : List α} {ys : List β}, Paired R xs ys → Paired R xs.reverse ys.reverse
  | _, _, .nil => .nil
  | _, _, .cons r t => by
    rw [List.reverse_cons, List.reverse_cons]
    exact p_app (p_rev t) (.cons r .nil)
theorem p_len {α β : Type} {R : α → β → Prop} : ∀ {xs : List α} {ys : List β}, Paired R xs ys → xs.length = ys.length
  | _, _, .nil => rfl
  | _, _, .cons _ t => by rw [List.length_cons, List.length_cons, p_len t]
theorem dField_fd {f : Fd} (h : FdOk f) : dField (fdat f) = true := by
  have h1 : dTxt (.str f.1) 1 20 = true := h.n
  have h2 : dTxt (.str f.2) 0 40 = true := h.v
  show (dTxt (.str f.1) 1 20 && dTxt (.str f.2) 0 40) = true
  rw [h1, h2]; rfl
theorem sz_fd {f : Fd} (h : FdOk f) : Sz 700 1 (fdat f) := by
  have zx := sz_txt (b := 20) h.n
  have zy := sz_txt (b := 40) h.v
  refine sz_tup' (k := 0) ?_ ?_ ?_
  · rw [okVAll, okVAll, okVAll, zx.ok, zy.ok]; rfl
  · have := zx.w; have := zy.w
    rw [wVAll, wVAll, wVAll]; omega
  · exact depthAll_le fun d hd => by
      simp only [List.mem_cons, List.not_mem_nil, or_false] at hd
      rcases hd with rfl | rfl
      · exact zx.dp
      · exact zy.dp
theorem sz_many {b k : Nat} : ∀ {ds : List PyData}, (∀ d ∈ ds, Sz b k d) → okVAll ds = true ∧ wVAll ds ≤ (b + 2) * ds.length ∧ PyData.depthAll ds ≤ k
  | [], _ => ⟨by rw [okVAll], by rw [wVAll]; omega, by rw [PyData.depthAll]; omega⟩
  | d :: ds, h => by
    obtain ⟨h1, h2, h3⟩ := sz_many (ds := ds) fun e he => h e (List.mem_cons_of_mem _ he)
    have z := h d (List.mem_cons_self ..)
    refine ⟨by rw [okVAll, z.ok, h1]; rfl, ?_, ?_⟩
    · rw [wVAll, List.length_cons, Nat.mul_add]; have := z.w; omega
    · rw [PyData.depthAll]; have := z.dp; omega
theorem sz_fds {F : List Fd} (h : ∀ f ∈ F, FdOk f) (hl : F.length ≤ 40) : Sz 30000 2 (.tuple (F.map fdat)) := by
  obtain ⟨h1, h2, h3⟩ := sz_many (b := 700) (k := 1) (ds := F.map fdat) fun d hd => by
    obtain ⟨f, hf, rfl⟩ := List.mem_map.mp hd
    exact sz_fd (h f hf)
  rw [List.length_map] at h2
  have : (700 + 2) * F.length ≤ (700 + 2) * 40 := Nat.mul_le_mul_left _ hl
  exact sz_tup' h1 (by omega) h3
/-! ### settings -/
def SetV (K : PySem.W.Frag) (H : Hp) (v : V) (F : List Fd) (r w : Nat) : Prop := ∃ (a t : Addr) (xs : List V), v = .ref a ∧ SqT K H a [.ref t, .int (r : Nat), .int (w : Nat)] ∧ SqT K H t xs ∧ FdsV K H xs F
structure SetOk (F : List Fd) (r w : Nat) : Prop where
  len : F.length ≤ 12
  fd : ∀ f ∈ F, FdOk f
  r : r ≤ 120
  w : w ≤ 4
def sdat (F : List Fd) (r w : Nat) : PyData := .tuple [.tuple (F.map fdat), .int (r : Nat), .int (w : Nat)]
theorem SetV.ts {K : PySem.W.Frag} {H H' : Hp} {v : V} {F : List Fd} {r w : Nat} (h : SetV K H v F r w) (t : TS H H') : SetV K H' v F r w := let ⟨a, b, xs, e, s1, s2, s3⟩ := h; ⟨a, b, xs, e, t.tup s1, t.tup s2, s3.ts t⟩
theorem SetV.dp {K : PySem.W.Frag} {H : Hp} {v : V} {F : List Fd} {r w : Nat} (h : SetV K H v F r w) : Dp K H v (sdat F r w) := by
  obtain ⟨a, b, xs, rfl, s1, s2, s3⟩ := h
  exact .tup s1 (.cons (.tup s2 s3.dp) (.cons (.int _) (.cons (.int _) .nil)))
theorem nat_btw' {k a b : Nat} (h1 : a ≤ k) (h2 : k ≤ b) : dBtw (.int (k : Nat)) (a : Nat) (b : Nat) = true := by
  show (decide (((a : Nat) : Int) ≤ (k : Nat)) && decide (((k : Nat) : Int) ≤ (b : Nat))) = true
  rw [decide_eq_true (by omega), decide_eq_true (by omega)]; rfl
theorem dSetting_ok {F : List Fd} {r w : Nat} (h : SetOk F r w) : dSetting (sdat F r w) = true := by
  show (dFields 12 (.tuple (F.map fdat)) && dBtw (.int (r : Nat)) 0 120 && dBtw (.int (w : Nat)) 0 4) = true
  have e1 : dFields 12 (.tuple (F.map fdat)) = true := by
    show (decide ((F.map fdat).length ≤ 12) && (F.map fdat).all dField) = true
    rw [List.length_map, decide_eq_true h.len, Bool.true_and, List.all_eq_true]
    intro d hd
    obtain ⟨f, hf, rfl⟩ := List.mem_map.mp hd
    exact dField_fd (h.fd f hf)
  have e2 : dBtw (.int (r : Nat)) 0 120 = true := nat_btw' (a := 0) (b := 120) (by omega) h.r
  have e3 : dBtw (.int (w : Nat)) 0 4 = true := nat_btw' (a := 0) (b := 4) (by omega) h.w
  rw [e1, e2, e3]; rfl
theorem sz_set {F : List Fd} {r w : Nat} (h : SetOk F r w) : Sz 40000 3 (sdat F r w) := by
  have zf := sz_fds h.fd (by have := h.len; omega)
  have h3 : (200 : Nat) < 2 ^ 1000 := by decide +kernel
  have ir : Sz 1010 0 (.int (r : Nat)) := sz_int (by have := h.r; omega)
  have iw : Sz 1010 0 (.int (w : Nat)) := sz_int (by have := h.w; omega)
  refine sz_tup' (k := 2) ?_ ?_ ?_
  · rw [okVAll, okVAll, okVAll, okVAll, zf.ok, ir.ok, iw.ok]; rfl
  · have := zf.w; have := ir.w; have := iw.w
    rw [wVAll, wVAll, wVAll, wVAll]; omega
  · refine depthAll_le fun d hd => ?_
    simp only [List.mem_cons, List.not_mem_nil, or_false] at hd
    rcases hd with rfl | rfl | rfl
    · exact zf.dp
    · exact Nat.le_trans ir.dp (by decide)
    · exact Nat.le_trans iw.dp (by decide)
/-! ### entries -/
abbrev Ent := List (Nat × Fd)
def nkey (n : Nat) : Key := Sum.inl ((n : Nat) : Int)
theorem nkey_inj {a b : Nat} (h : nkey a = nkey b) : a = b := by
  have := Sum.inl.inj h
  omega
def PrV (K : PySem.W.Frag) (H : Hp) (p : Key × V) (e : Nat × Fd) : Prop := p.1 = nkey e.1 ∧ FdV K H p.2 e.2
theorem PrV.ts {K : PySem.W.Frag} {H H' : Hp} {p : Key × V} {e : Nat × Fd} (h : PrV K H p e) (t : TS H H') : PrV K H' p e := ⟨h.1, h.2.ts t⟩
def EntV (K : PySem.W.Frag) (H : Hp) (D : Addr) (es : Ent) : Prop := ∃ kvs, H D = some (.dK kvs) ∧ Paired (PrV K H) kvs es
def lookE (es : Ent) (n : Nat) : Option Fd := (es.find? fun e => decide (e.1 = n)).map (·.2)
def putE (es : Ent) (n : Nat) (f : Fd) : Ent := if (es.any fun e => decide (e.1 = n)) = true then es.map (fun e => if e.1 = n then (e.1, f) else e) else es ++ [(n, f)]
def dropE (es : Ent) (n : Nat) : Ent := es.filter fun e => decide (e.1 ≠ n)
structure EsOk (m : Nat) (es : Ent) : Prop where
  len : es.length ≤ m
  key : ∀ e ∈ es, e.1 ≤ 40
  fd : ∀ e ∈ es, FdOk e.2
  nd : (es.map (·.1)).Nodup
theorem EntV.ts {K : PySem.W.Frag} {H H' : Hp} {D : Addr} {es : Ent} (h : EntV K H D es) (t : TS H H') (e : ∀ o, H D = some o → H' D = some o) : EntV K H' D es := let ⟨kvs, h1, h2⟩ := h; ⟨kvs, e _ h1, pmap (fun _ _ z => z.ts t) h2⟩
theorem EntV.same {K : PySem.W.Frag} {H H' : Hp} {D : Addr} {es : Ent} (h : EntV K H D es) (s : Same H H') : EntV K H' D es := h.ts (.of s) fun o e => s _ _ e
/-- a value or None -/
def OFd (K : PySem.W.Frag) (H : Hp) (v : V) : Option Fd → Prop
  | none => v = .non
  | some f => FdV K H v f
theorem OFd.ts {K : PySem.W.Frag} {H H' : Hp} {v : V} {o : Option Fd} (h : OFd K H v o) (t : TS H H') : OFd K H' v o := by
  cases o with
  | none => exact h
  | some f => exact FdV.ts h t
theorem look_get {K : PySem.W.Frag} {H : Hp} {n : Nat} : ∀ {kvs : List (Key × V)} {es : Ent}, Paired (PrV K H) kvs es → (valV kvs (nkey n) = none ∧ lookE es n = none) ∨ ∃ v f, valV kvs (nkey n) = some v ∧ lookE es n = some f ∧ FdV K H v f
  | _, _, .nil => .inl ⟨rfl, rfl⟩
  | p :: kvs, e :: es, .cons h t => by
    by_cases c : e.1 = n
    · refine .inr ⟨p.2, e.2, ?_, ?_, h.2⟩
      · exact valV_pos (by rw [h.1, c])
      · unfold lookE; rw [List.find?_cons, decide_eq_true c]; rfl
    · have e1 : valV (p :: kvs) (nkey n) = valV kvs (nkey n) := valV_neg (by rw [h.1]; exact fun z => c (nkey_inj z))
      have e2 : lookE (e :: es) n = lookE es n := by unfold lookE; rw [List.find?_cons, decide_eq_false c]
      rw [e1, e2]
      exact look_get t
theorem any_get {K : PySem.W.Frag} {H : Hp} {n : Nat} : ∀ {kvs : List (Key × V)} {es : Ent}, Paired (PrV K H) kvs es → (kvs.any fun kv => decide (kv.1 = nkey n)) = es.any fun e => decide (e.1 = n)
  | _, _, .nil => rfl
  | p :: kvs, e :: es, .cons h t => by
    rw [List.any_cons, List.any_cons, any_get t]
    congr 1
    exact decide_eq_decide.mpr ⟨fun z => nkey_inj (h.1.symm.trans z), fun z => by rw [h.1, z]⟩
theorem put_get {K : PySem.W.Frag} {H : Hp} {n : Nat} {v : V} {f : Fd} {kvs : List (Key × V)} {es : Ent} (h : Paired (PrV K H) kvs es) (hf : FdV K H v f) : Paired (PrV K H) (putK kvs (nkey n) v) (putE es n f) := by
  have go : ∀ {kvs : List (Key × V)} {es : Ent}, Paired (PrV K H) kvs es → Paired (PrV K H) (kvs.map fun kv => if kv.1 = nkey n then (kv.1, v) else kv) (es.map fun e => if e.1 = n then (e.1, f) else e) := by
    intro kvs es h
    induction h with
    | nil => exact .nil
    | @cons p e _ _ h t ih =>
      rw [List.map_cons, List.map_cons]
      refine .cons ?_ ih
      by_cases c : e.1 = n
      · rw [if_pos c, if_pos (by rw [h.1, c])]; exact ⟨h.1, hf⟩
      · rw [if_neg c, if_neg (by rw [h.1]; exact fun z => c (nkey_inj z))]; exact h
  unfold putK putE
  rw [any_get h]
  by_cases c : (es.any fun e => decide (e.1 = n)) = true
  · rw [if_pos c, if_pos c]; exact go h
  · rw [if_neg c, if_neg c]; exact p_app h (.cons ⟨rfl, hf⟩ .nil)
theorem drop_get {K : PySem.W.Frag} {H : Hp} {n : Nat} : ∀ {kvs : List (Key × V)} {es : Ent}, Paired (PrV K H) kvs es → Paired (PrV K H) (dropK kvs (nkey n)) (dropE es n)
  | _, _, .nil => .nil
  | p :: kvs, e :: es, .cons h t => by
    unfold dropK dropE
    rw [List.filter_cons, List.filter_cons]
    by_cases c : e.1 = n
    · rw [if_neg (by simp [h.1, c]), if_neg (by simp [c])]; exact drop_get t
    · rw [if_pos (by simp only [decide_eq_true_eq]; rw [h.1]; exact fun z => c (nkey_inj z)), if_pos (by simp [c])]; exact .cons h (drop_get t)
theorem len_putE (es : Ent) (n : Nat) (f : Fd) : (putE es n f).length ≤ es.length + 1 := by
  unfold putE
  split
  · rw [List.length_map]; omega
  · simp
theorem keys_map (es : Ent) (n : Nat) (f : Fd) : (es.map fun e => if e.1 = n then (e.1, f) else e).map (·.1) = es.map (·.1) := by
  rw [List.map_map]
  apply List.map_congr_left
  intro e _
  show (if e.1 = n then (e.1, f) else e).1 = e.1
  split <;> rfl
theorem EsOk.put {m n : Nat} {es : Ent} {f : Fd} (h : EsOk m es) (hn : n ≤ 40) (hf : FdOk f) : EsOk (m + 1) (putE es n f) := by
  refine ⟨by have := len_putE es n f; have := h.len; omega, ?_, ?_, ?_⟩
  · intro e he
    unfold putE at he
    split at he
    · obtain ⟨x, hx, rfl⟩ := List.mem_map.mp he
      have := h.key x hx
      split <;> exact this
    · rcases List.mem_append.mp he with z | z
      · exact h.key e z
      · rw [List.mem_singleton.mp z]; exact hn
  · intro e he
    unfold putE at he
    split at he
    · obtain ⟨x, hx, rfl⟩ := List.mem_map.mp he
      have := h.fd x hx
      split
      · exact hf
      · exact this
    · rcases List.mem_append.mp he with z | z
      · exact h.fd e z
      · rw [List.mem_singleton.mp z]; exact hf
  · unfold putE
    split
    · rw [keys_map]; exact h.nd
    · rename_i c
      rw [List.map_append, List.nodup_append]
      refine ⟨h.nd, by simp, ?_⟩
      rintro a ha b hb rfl
      have : a = n := by simpa using hb
      subst this
      obtain ⟨e, he, rfl⟩ := List.mem_map.mp ha
      exact c (List.any_eq_true.mpr ⟨e, he, decide_eq_true rfl⟩)
theorem EsOk.drop {m n : Nat} {es : Ent} (h : EsOk m es) : EsOk m (dropE es n) :=
  ⟨Nat.le_trans (List.length_filter_le _ _) h.len, fun e he => h.key e (List.mem_filter.mp he).1, fun e he => h.fd e (List.mem_filter.mp he).1, (List.Sublist.map _ List.filter_sublist).nodup h.nd⟩
theorem EsOk.mono {m m' : Nat} {es : Ent} (h : EsOk m es) (l : m ≤ m') : EsOk m' es := ⟨Nat.le_trans h.len l, h.key, h.fd, h.nd⟩
theorem look_put (es : Ent) (n : Nat) (f : Fd) : lookE (putE es n f) n = some f := by
  unfold putE
  split
  · rename_i c
    induction es with
    | nil => cases c
    | cons e es ih =>
      rw [List.map_cons]
      by_cases d : e.1 = n
      · unfold lookE; rw [if_pos d, List.find?_cons, decide_eq_true d]; rfl
      · rw [List.any_cons, decide_eq_false d, Bool.false_or] at c
        have := ih c
        unfold lookE at this ⊢
        rw [if_neg d, List.find?_cons, decide_eq_false d]
        exact this
  · rename_i c
    induction es with
    | nil => unfold lookE; rw [List.nil_append, List.find?_cons, decide_eq_true rfl]; rfl
    | cons e es ih =>
      rw [List.any_cons, Bool.or_eq_true, not_or] at c
      have d : ¬ e.1 = n := fun z => c.1 (decide_eq_true z)
      have := ih c.2
      unfold lookE at this ⊢
      rw [List.cons_append, List.find?_cons, decide_eq_false d]
      exact this
theorem look_some_iff {es : Ent} (nd : (es.map (·.1)).Nodup) {n : Nat} {f : Fd} : lookE es n = some f ↔ (n, f) ∈ es := by
  induction es with
  | nil => simp [lookE]
  | cons e es ih =>
    rw [List.map_cons, List.nodup_cons] at nd
    have ih := ih nd.2
    unfold lookE at ih ⊢
    rw [List.find?_cons]
    by_cases c : e.1 = n
    · rw [decide_eq_true c]
      constructor
      · intro h
        have h2 : e.2 = f := Option.some.inj h
        rw [← c, ← h2]; exact List.mem_cons_self ..
      · intro h
        rcases List.mem_cons.mp h with h | h
        · rw [← h]; rfl
        · exact absurd (List.mem_map.mpr ⟨_, h, rfl⟩) (by rw [c] at nd; exact nd.1)
    · rw [decide_eq_false c]
      refine ih.trans ⟨fun h => List.mem_cons_of_mem _ h, fun h => ?_⟩
      rcases List.mem_cons.mp h with h | h
      · exact absurd (by rw [← h]) c
      · exact h
theorem nd_rev {l : List Nat} (h : l.Nodup) : l.reverse.Nodup := List.pairwise_reverse.mpr (List.Pairwise.imp (fun h => Ne.symm h) h)
theorem look_rev {es : Ent} (nd : (es.map (·.1)).Nodup) (n : Nat) : lookE es.reverse n = lookE es n := by
  have nd2 : (es.reverse.map (·.1)).Nodup := by rw [List.map_reverse]; exact nd_rev nd
  cases h : lookE es n with
  | some f =>
    exact (look_some_iff nd2).mpr (List.mem_reverse.mpr ((look_some_iff nd).mp h))
  | none =>
    cases h2 : lookE es.reverse n with
    | none => rfl
    | some f =>
      have := (look_some_iff nd).mpr (List.mem_reverse.mp ((look_some_iff nd2).mp h2))
      rw [h] at this; cases this
theorem EsOk.rev {m : Nat} {es : Ent} (h : EsOk m es) : EsOk m es.reverse :=
  ⟨by rw [List.length_reverse]; exact h.len, fun e he => h.key e (List.mem_reverse.mp he), fun e he => h.fd e (List.mem_reverse.mp he), by rw [List.map_reverse]; exact nd_rev h.nd⟩
/-- a dict of pairs whose keys differ -/
theorem merge_app : ∀ (more acc : List (Key × V)), ((acc ++ more).map (·.1)).Nodup → mergeK acc more = acc ++ more
  | [], acc, _ => by rw [List.append_nil]; rfl
  | kv :: more, acc, h => by
    have h1 : valV acc kv.1 = none := by
      rw [List.map_append, List.map_cons, List.nodup_append] at h
      unfold valV
      rw [Option.map_eq_none_iff, List.find?_eq_none]
      intro x hx z
      exact h.2.2 x.1 (List.mem_map.mpr ⟨x, hx, rfl⟩) kv.1 (List.mem_cons_self ..) (of_decide_eq_true z)
    show mergeK (putK acc kv.1 kv.2) more = _
    rw [putK_new _ h1]
    have := merge_app more (acc ++ [(kv.1, kv.2)]) (by rw [List.append_assoc]; exact h)
    rw [this, List.append_assoc]
    rfl
theorem keys_nd {K : PySem.W.Frag} {H : Hp} {kvs : List (Key × V)} {es : Ent} (h : Paired (PrV K H) kvs es) (nd : (es.map (·.1)).Nodup) : (kvs.map (·.1)).Nodup := by
  have e : kvs.map (·.1) = (es.map (·.1)).map nkey := by
    induction h with
    | nil => rfl
    | cons h t ih =>
      rw [List.map_cons, List.nodup_cons] at nd
      rw [List.map_cons, List.map_cons, List.map_cons, ih nd.2, h.1]
  rw [e]
  clear e h
  induction es with
  | nil => exact List.nodup_nil
  | cons x xs ih =>
    rw [List.map_cons, List.nodup_cons] at nd
    rw [List.map_cons, List.map_cons, List.nodup_cons]
    refine ⟨fun z => ?_, ih nd.2⟩
    obtain ⟨y, hy, e⟩ := List.mem_map.mp z
    exact nd.1 (nkey_inj e ▸ hy)
/-! ### what a block says -/
def said1 (F : List Fd) (es : Ent) : Ln → Option Fd
  | .fix1 n => F[n]?
  | .fix2 n x => (F[n]?).map fun f => (f.1, x)
  | .ent1 n => lookE es n
  | .ent2 n x => (lookE es n).map fun f => (f.1, x)
  | .out y x => some (y, x)
def saidL (F : List Fd) (es : Ent) : List Ln → Option (List Fd)
  | [] => some []
  | l :: ls => match said1 F es l with
    | none => none
    | some f => (saidL F es ls).map (f :: ·)
theorem said1_congr {F : List Fd} {es es' : Ent} (h : ∀ n, lookE es' n = lookE es n) (l : Ln) : said1 F es' l = said1 F es l := by
  cases l with
  | fix1 n => rfl
  | fix2 n x => rfl
  | ent1 n => exact h n
  | ent2 n x => show (lookE es' n).map _ = _; rw [h n]; rfl
  | out y x => rfl
theorem saidL_congr {F : List Fd} {es es' : Ent} (h : ∀ n, lookE es' n = lookE es n) : ∀ ls, saidL F es' ls = saidL F es ls
  | [] => rfl
  | l :: ls => by unfold saidL; rw [said1_congr h, saidL_congr h ls]
def resD : Option (List Fd) → PyData
  | none => .none
  | some fs => .tuple (fs.map fdat)
theorem saidL_len {F : List Fd} {es : Ent} : ∀ {ls : List Ln} {fs : List Fd}, saidL F es ls = some fs → fs.length = ls.length
  | [], fs, h => by cases h; rfl
  | l :: ls, fs, h => by
    unfold saidL at h
    cases e : said1 F es l with
    | none => rw [e] at h; cases h
    | some f =>
      rw [e] at h
      cases e2 : saidL F es ls with
      | none => simp only [e2] at h; cases h
      | some gs =>
        simp only [e2] at h
        cases h
        rw [List.length_cons, List.length_cons, saidL_len e2]
/-- the values of all lines: one is None, or all are fields -/
theorem said_all {K : PySem.W.Frag} {H : Hp} {F : List Fd} {es : Ent} : ∀ {ls : List Ln} {vs : List V}, Paired (fun v l => OFd K H v (said1 F es l)) vs ls →
    (saidL F es ls = none ∧ (∃ v ∈ vs, v = .non)) ∨ ∃ fs, saidL F es ls = some fs ∧ FdsV K H vs fs
  | _, _, .nil => .inr ⟨[], rfl, .nil⟩
  | l :: ls, v :: vs, .cons h t => by
    unfold saidL
    cases e : said1 F es l with
    | none => rw [e] at h; exact .inl ⟨rfl, v, List.mem_cons_self .., h⟩
    | some f =>
      rw [e] at h
      rcases said_all t with ⟨e2, w, hw, ew⟩ | ⟨fs, e2, hf⟩
      · refine .inl ⟨by simp only [e2]; rfl, w, List.mem_cons_of_mem _ hw, ew⟩
      · exact .inr ⟨f :: fs, by simp only [e2]; rfl, .cons h hf⟩
theorem LnV.ts {K : PySem.W.Frag} {H H' : Hp} {v : V} {l : Ln} (h : LnV K H v l) (t : TS H H') : LnV K H' v l := let ⟨a, e, s⟩ := h; ⟨a, e, t.tup s⟩
theorem LnsV.ts {K : PySem.W.Frag} {H H' : Hp} (t : TS H H') : ∀ {xs : List V} {ls : List Ln}, LnsV K H xs ls → LnsV K H' xs ls
  | _, _, .nil => .nil
  | _, _, .cons h s => .cons (h.ts t) (LnsV.ts t s)
theorem BlkV.ts {K : PySem.W.Frag} {H H' : Hp} {v : V} {b : Blk} (h : BlkV K H v b) (t : TS H H') : BlkV K H' v b := let ⟨a, u, xs, e, s1, s2, s3⟩ := h; ⟨a, u, xs, e, t.tup s1, t.tup s2, LnsV.ts t s3⟩
/-! ### None in a list of None and tuples -/
def NoT (K : PySem.W.Frag) (H : Hp) (z : V) : Prop := z = .non ∨ ∃ a xs, z = .ref a ∧ SqT K H a xs
theorem noT_any {K : PySem.W.Frag} {H : Hp} : ∀ {xs : List V} {us : List Value}, Vals xs us → (∀ z ∈ xs, NoT K H z) → us.any PySem.Numpy.isNone = xs.any isNon
  | _, _, .nil, _ => rfl
  | x :: xs, u :: us, .cons r t, f => by
    rw [List.any_cons, List.any_cons, noT_any t fun z hz => f z (List.mem_cons_of_mem _ hz)]
    congr 1
    rcases f x (List.mem_cons_self ..) with rfl | ⟨a, ys, rfl, _⟩
    · cases r; rfl
    · cases r; rfl
def rNoneInT (K : PySem.W.Frag) : R2 := fun x y H Q => ∃ p xs, x = .non ∧ y = .ref p ∧ SqL K H p xs ∧ (∀ z ∈ xs, NoT K H z) ∧ Q (.bl (xs.any isNon)) H
theorem noT_mem {X : Cx} {A : Around} {pins : List (Addr × Obj)} {σ : L2.St} {H : Hp} {s : Shared} (I : Inv X pins σ H s) (hu : A.units < cLine) : ∀ {xs : List V} {us : List Value}, Vals xs us → (∀ z ∈ xs, NoT X.K H z) → ∀ u ∈ us, SeqAt.EqAt A s u .none (PySem.Numpy.isNone u)
  | _, _, .nil, _ => fun u hu' => nomatch hu'
  | y :: xs, u :: us, .cons r t, f => fun u' hu' => by
    rcases List.mem_cons.mp hu' with e | hu'
    · subst e
      rcases f y (List.mem_cons_self ..) with rfl | ⟨a, ys, rfl, h⟩
      · cases r; exact SeqAt.EqAt.same _
      · cases r
        obtain ⟨its, rv, pl, _⟩ := I.tuple h
        exact SeqAt.EqAt.tuple_none pl hu
    · exact noT_mem I hu t (fun z hz => f z (List.mem_cons_of_mem _ hz)) u' hu'
theorem op_noneInT {X : Cx} (hu : X.A.units + 64 < cLine) : OpR X (compareOp .In) (rNoneInT X.K) := by
  intro pins s σ H x y v u Q I rx ry h
  obtain ⟨p, xs, rfl, rfl, hq, f, q⟩ := h
  cases rx
  cases ry
  obtain ⟨its, rv, hl, _⟩ := I.list hq
  have hu1 : X.A.in1.units < cLine := by show X.A.units + 1 < cLine; omega
  refine SeqAt.in_listAt PySem.Numpy.isNone hl.isList (fun z hz => noT_mem I hu1 rv f z (by simpa using hz)) ⟨.bl _, H, I, rfl, ?_⟩
  rw [show its.toArray.any PySem.Numpy.isNone = its.any PySem.Numpy.isNone by simp, noT_any rv f]
  exact q
end Fld
namespace Fld
open PySem PySem.Spec PyProof.Rows L2
def sp_are_entries (K : PySem.W.Frag) : Sp := fun vs H Q _ => ∃ (D : Addr) (es : Ent), vs = [.ref D] ∧ EntV K H D es ∧ EsOk 24 es ∧ ∀ H', Same H H' → Q (.bl true) H'
def sp_check_entries (K : PySem.W.Frag) : Sp := fun vs H Q _ => ∃ (D : Addr) (es : Ent), vs = [.ref D] ∧ EntV K H D es ∧ EsOk 24 es ∧ ∀ H', Same H H' → Q .non H'
def sp_check_setting (K : PySem.W.Frag) : Sp := fun vs H Q _ => ∃ (v : V) (F : List Fd) (r w : Nat), vs = [v] ∧ SetV K H v F r w ∧ SetOk F r w ∧ ∀ H', Same H H' → Q .non H'
/-- fixed fields and entries -/
structure TabV (K : PySem.W.Frag) (H : Hp) (t D : Addr) (F : List Fd) (es : Ent) : Prop where
  fx : ∃ xs, SqT K H t xs ∧ FdsV K H xs F
  en : EntV K H D es
theorem TabV.ts {K : PySem.W.Frag} {H H' : Hp} {t D : Addr} {F : List Fd} {es : Ent} (h : TabV K H t D F es) (s : TS H H') (e : ∀ o, H D = some o → H' D = some o) : TabV K H' t D F es :=
  ⟨let ⟨xs, a, b⟩ := h.fx; ⟨xs, s.tup a, b.ts s⟩, h.en.ts s e⟩
theorem TabV.same {K : PySem.W.Frag} {H H' : Hp} {t D : Addr} {F : List Fd} {es : Ent} (h : TabV K H t D F es) (s : Same H H') : TabV K H' t D F es := h.ts (.of s) fun o e => s _ _ e
def sp_referred (K : PySem.W.Frag) : Sp := fun vs H Q _ => ∃ (t D : Addr) (F : List Fd) (es : Ent) (k : Str) (n : Nat), vs = [.ref t, .ref D, .str k, .int n] ∧ TabV K H t D F es ∧
  ((k = "fixed" ∧ ∀ v, OFd K H v (F[n]?) → Q v H) ∨ (k = "entry" ∧ ∀ v, OFd K H v (lookE es n) → Q v H))
def sp_said_field (K : PySem.W.Frag) : Sp := fun vs H Q _ => ∃ (t D : Addr) (F : List Fd) (es : Ent) (v : V) (l : Ln), vs = [.ref t, .ref D, v] ∧ TabV K H t D F es ∧ LnV K H v l ∧ ∀ r H', Same H H' → OFd K H' r (said1 F es l) → Q r H'
def sp_said_fields (K : PySem.W.Frag) : Sp := fun vs H Q _ => ∃ (t D u : Addr) (F : List Fd) (es : Ent) (ys : List V) (ls : List Ln), vs = [.ref t, .ref D, .ref u] ∧ TabV K H t D F es ∧ SqT K H u ys ∧ LnsV K H ys ls ∧ ls.length ≤ 16 ∧
  ∀ r H', Same H H' → Dp K H' r (resD (saidL F es ls)) → Q r H'
def sp_says (K : PySem.W.Frag) : Sp := fun vs H Q _ => ∃ (sv bv : V) (D : Addr) (F : List Fd) (r w : Nat) (es : Ent) (b : Blk), vs = [sv, .ref D, bv] ∧ SetV K H sv F r w ∧ SetOk F r w ∧ EntV K H D es ∧ EsOk 24 es ∧ BlkV K H bv b ∧ b.Ok ∧
  ∀ rv H', Same H H' → Dp K H' rv (resD (saidL F es b.ls)) → Q rv H'
theorem look_mem {es : Ent} {n : Nat} {f : Fd} (h : lookE es n = some f) : (n, f) ∈ es := by
  unfold lookE at h
  rw [Option.map_eq_some_iff] at h
  obtain ⟨e, h1, h2⟩ := h
  have h3 := List.mem_of_find?_eq_some h1
  have h4 : e.1 = n := by have := List.find?_some h1; simpa using this
  subst h4 h2; exact h3
theorem look_has {es : Ent} {n : Nat} {f : Fd} (h : (n, f) ∈ es) : ∃ g, lookE es n = some g := by
  cases e : lookE es n with
  | some g => exact ⟨g, rfl⟩
  | none =>
    unfold lookE at e
    rw [Option.map_eq_none_iff, List.find?_eq_none] at e
    exact absurd (decide_eq_true rfl) (e _ h)
theorem lim_fd {f : Fd} (h : FdOk f) : Lim (fdat f) := ⟨(sz_fd h).ok, by have := (sz_fd h).w; omega⟩
theorem lim_set {F : List Fd} {r w : Nat} (h : SetOk F r w) : Lim (sdat F r w) := ⟨(sz_set h).ok, by have := (sz_set h).w; omega⟩
end Fld
namespace Fld
open PySem PySem.Spec PyProof.Rows L2
theorem saidL_none {F : List Fd} {es : Ent} {l : Ln} : ∀ {ls : List Ln}, l ∈ ls → said1 F es l = none → saidL F es ls = none
  | k :: ls, h, e => by
    unfold saidL
    rcases List.mem_cons.mp h with rfl | h
    · rw [e]
    · cases said1 F es k with
      | none => rfl
      | some f => simp only [saidL_none h e]; rfl
def SomeFd (K : PySem.W.Frag) (H : Hp) (F : List Fd) (es : Ent) (v : V) (l : Ln) : Prop := ∃ f, said1 F es l = some f ∧ FdV K H v f
theorem SomeFd.ts {K : PySem.W.Frag} {H H' : Hp} {F : List Fd} {es : Ent} {v : V} {l : Ln} (h : SomeFd K H F es v l) (t : TS H H') : SomeFd K H' F es v l := let ⟨f, e, g⟩ := h; ⟨f, e, g.ts t⟩
theorem saidL_some {K : PySem.W.Frag} {H : Hp} {F : List Fd} {es : Ent} : ∀ {ls : List Ln} {vs : List V}, Paired (SomeFd K H F es) vs ls → ∃ fs, saidL F es ls = some fs ∧ FdsV K H vs fs
  | _, _, .nil => ⟨[], rfl, .nil⟩
  | l :: ls, v :: vs, .cons ⟨f, e, h⟩ t => by
    obtain ⟨fs, e2, h2⟩ := saidL_some t
    exact ⟨f :: fs, by unfold saidL; rw [e]; simp only [e2]; rfl, .cons h h2⟩
def sp_near_field (K : PySem.W.Frag) : Sp := fun vs H Q _ => ∃ (p c : Addr) (n : Nat), vs = [.ref p] ∧ Pen H p c n ∧ n ≤ 700000 ∧ ∀ v f H', FdV K H' v f → FdOk f → Drew p c H H' (n + 110) → Q v H'
def sp_draw_setting (K : PySem.W.Frag) : Sp := fun vs H Q _ => ∃ (p c : Addr) (n : Nat), vs = [.ref p] ∧ Pen H p c n ∧ n ≤ 600000 ∧ ∀ v F r w H', SetV K H' v F r w → SetOk F r w → Drew p c H H' (n + 1500) → Q v H'
def sp_law_said (K : PySem.W.Frag) : Sp := fun vs H Q _ => ∃ (t D : Addr) (bv : V) (F : List Fd) (es : Ent) (b : Blk), vs = [.ref t, .ref D, bv] ∧ TabV K H t D F es ∧ BlkV K H bv b ∧ b.ls.length ≤ 16 ∧
  ∀ r H', Same H H' → Dp K H' r (resD (saidL F es b.ls)) → Q r H'
def sp_draw_entries (K : PySem.W.Frag) : Sp := fun vs H Q _ => ∃ (p c : Addr) (n : Nat), vs = [.ref p] ∧ Pen H p c n ∧ n ≤ 600000 ∧ ∀ D es H', H D = none → EntV K H' D es → EsOk 24 es → (∀ e ∈ es, e.1 ≤ 39) → Drew p c H H' (n + 4000) → Q (.ref D) H'
def sp_draw_lines (K : PySem.W.Frag) : Sp := fun vs H Q _ => ∃ (p c t D : Addr) (n req : Nat) (F : List Fd) (es : Ent), vs = [.ref p, .ref t, .ref D, .int req] ∧ Pen H p c n ∧ n ≤ 600000 ∧ TabV K H t D F es ∧ F.length ≤ 12 ∧ EsOk 24 es ∧ req ≤ 41 ∧
  ∀ u ys ls H', SqT K H' u ys → LnsV K H' ys ls → (∀ l ∈ ls, l.Ok req) → ls.length ≤ 16 → Drew p c H H' (n + 4000) → Q (.ref u) H'
def nearNames : List Str := ["a", "ab", "path", ":method", "x"]
def nearVals : List Str := ["", "1", "get", "x=1", "on"]
theorem near_ok : (nearNames.all fun z => txt (.str z) 1 20) = true ∧ (nearVals.all fun z => txt (.str z) 0 40) = true := by constructor <;> decide +kernel
end Fld
namespace Fld
open PySem PySem.Spec PyProof.Rows L2
theorem keys_inl {K : PySem.W.Frag} {H : Hp} : ∀ {kvs : List (Key × V)} {es : Ent}, Paired (PrV K H) kvs es → kvs.map (·.1) = (es.map fun e => ((e.1 : Nat) : Int)).map Sum.inl
  | _, _, .nil => rfl
  | _, _, .cons h t => by rw [List.map_cons, List.map_cons, List.map_cons, keys_inl t, h.1]; rfl
theorem keys_kV {K : PySem.W.Frag} {H : Hp} : ∀ {kvs : List (Key × V)} {es : Ent}, Paired (PrV K H) kvs es → (kvs.map fun kv => kV kv.1) = (es.map fun e => ((e.1 : Nat) : Int)).map V.int
  | _, _, .nil => rfl
  | _, _, .cons h t => by rw [List.map_cons, List.map_cons, List.map_cons, keys_kV t, h.1]; rfl
/-- some lines to draw one of -/
structure SomeLn (K : PySem.W.Frag) (p c : Addr) (H5 H' : Hp) (L : Addr) (req N : Nat) : Prop where
  pen : Pen H' p c N
  but : But p H5 H'
  ex : ∃ xs, H' L = some (.lst xs) ∧ xs ≠ [] ∧ xs.length ≤ 2 ∧ ∀ x ∈ xs, ∃ l, LnV K H' x l ∧ l.Ok req
  ne : L ≠ p
theorem SomeLn.mono {K : PySem.W.Frag} {p c : Addr} {H5 H' : Hp} {L : Addr} {req N M : Nat} (h : SomeLn K p c H5 H' L req N) (l : N ≤ M) : SomeLn K p c H5 H' L req M := ⟨h.pen.mono l, h.but, h.ex, h.ne⟩
end Fld
/-! entries as data; what two dicts of the same entries say -/
namespace Fld
open PySem PySem.Spec PyProof.Rows L2
def ekv (es : Ent) : List (PyData × PyData) := es.map fun e => (PyData.int (e.1 : Nat), fdat e.2)
theorem ekv_keys {K : PySem.W.Frag} {H : Hp} : ∀ {kvs : List (Key × V)} {es : Ent}, Paired (PrV K H) kvs es → kvs.map (fun p => ofK p.1) = (ekv es).map (·.1)
  | _, _, .nil => rfl
  | _, _, .cons h t => by
    unfold ekv
    rw [List.map_cons, List.map_cons, List.map_cons, ekv_keys t, h.1]; rfl
theorem ekv_vals {K : PySem.W.Frag} {H : Hp} : ∀ {kvs : List (Key × V)} {es : Ent}, Paired (PrV K H) kvs es → DvAll K H (kvs.map (·.2)) ((ekv es).map (·.2))
  | _, _, .nil => .nil
  | _, _, .cons h t => .cons (.ofDp h.2.dp) (ekv_vals t)
theorem EntV.dv {K : PySem.W.Frag} {H : Hp} {D : Addr} {es : Ent} (h : EntV K H D es) : Dv K H (.ref D) (.dict (ekv es)) := by
  obtain ⟨kvs, hD, hp⟩ := h
  exact .dic hD (ekv_keys hp) (ekv_vals hp)
theorem sz_kv : ∀ {es : Ent}, (∀ e ∈ es, e.1 ≤ 40 ∧ FdOk e.2) → okVKv (ekv es) = true ∧ wVKv (ekv es) ≤ 1716 * es.length ∧ PyData.depthKv (ekv es) ≤ 1
  | [], _ => ⟨by unfold ekv; rw [List.map_nil, okVKv], by unfold ekv; rw [List.map_nil, wVKv]; omega, by unfold ekv; rw [List.map_nil, PyData.depthKv]; omega⟩
  | e :: es, h => by
    obtain ⟨h1, h2, h3⟩ := sz_kv (es := es) fun x hx => h x (List.mem_cons_of_mem _ hx)
    obtain ⟨k40, fok⟩ := h e (List.mem_cons_self ..)
    have z := sz_fd fok
    have zi : Sz 1010 0 (.int (e.1 : Nat)) := sz_int (by have h3 : (200 : Nat) < 2 ^ 1000 := by decide +kernel
                                                         omega)
    have e0 : ekv (e :: es) = (PyData.int (e.1 : Nat), fdat e.2) :: ekv es := rfl
    rw [e0]
    refine ⟨by rw [okVKv, zi.ok, z.ok, h1]; rfl, ?_, ?_⟩
    · rw [wVKv, List.length_cons]; have := zi.w; have := z.w; omega
    · rw [PyData.depthKv]; have := zi.dp; have := z.dp; omega
theorem sz_ent {m : Nat} {es : Ent} (h : EsOk m es) (hm : m ≤ 40) : Sz 80000 2 (.dict (ekv es)) := by
  obtain ⟨h1, h2, h3⟩ := sz_kv (es := es) fun e he => ⟨h.key e he, h.fd e he⟩
  have hl := h.len
  have : 1716 * es.length ≤ 1716 * 40 := Nat.mul_le_mul_left _ (by omega)
  exact ⟨by rw [okV]; exact h1, by rw [wV]; omega, by rw [PyData.depth]; omega⟩
theorem sz_ln {r : Nat} {l : Ln} (hr : r ≤ 9999) (ok : l.Ok r) : Sz 1500 1 l.dat := by
  have hi : ∀ n : Nat, n ≤ 9999 → Sz 1010 0 (.int (n : Nat)) := fun n h => sz_int (Nat.lt_of_le_of_lt (show n ≤ 9999 from h) (by decide +kernel))
  have hx : ∀ {x : Str}, txt (.str x) 0 40 = true → Sz 402 0 (.str x) := fun h => sz_txt (b := 40) h
  have hy : ∀ {x : Str}, txt (.str x) 1 20 = true → Sz 202 0 (.str x) := fun h => sz_txt (b := 20) h
  have f5 : Sz 52 0 (.str "fixed") := ⟨by decide, by decide, by decide⟩
  have e5 : Sz 52 0 (.str "entry") := ⟨by decide, by decide, by decide⟩
  have o3 : Sz 32 0 (.str "out") := ⟨by decide, by decide, by decide⟩
  have two : ∀ {a b : PyData}, Sz 52 0 a → Sz 1010 0 b → Sz 1500 1 (.tuple [a, b]) := fun ha hb =>
    sz_tup' (k := 0) (by rw [okVAll, okVAll, okVAll, ha.ok, hb.ok]; rfl) (by rw [wVAll, wVAll, wVAll]; have := ha.w; have := hb.w; omega) (by rw [PyData.depthAll, PyData.depthAll, PyData.depthAll]; have := ha.dp; have := hb.dp; omega)
  have tri : ∀ {a b d : PyData}, Sz 52 0 a → Sz 1010 0 b → Sz 402 0 d → Sz 1500 1 (.tuple [a, b, d]) := fun ha hb hd =>
    sz_tup' (k := 0) (by rw [okVAll, okVAll, okVAll, okVAll, ha.ok, hb.ok, hd.ok]; rfl) (by rw [wVAll, wVAll, wVAll, wVAll]; have := ha.w; have := hb.w; have := hd.w; omega) (by rw [PyData.depthAll, PyData.depthAll, PyData.depthAll, PyData.depthAll]; have := ha.dp; have := hb.dp; have := hd.dp; omega)
  cases l with
  | fix1 n => exact two f5 (hi n ok)
  | ent1 n => exact two e5 (hi n (by have : n < r := ok; omega))
  | fix2 n x => exact tri f5 (hi n ok.1) (hx ok.2)
  | ent2 n x => exact tri e5 (hi n (by have := ok.1; omega)) (hx ok.2)
  | out y x => exact tri (o3.mono (by omega) (by omega)) ((hy ok.1).mono (by omega) (by omega)) (hx ok.2)
theorem sz_b3 {r b : Nat} {ls : List Ln} (hr : r ≤ 9999) (hb : b ≤ 9999) (hl : ls.length ≤ 16) (ok : ∀ l ∈ ls, ∃ q, q ≤ 9999 ∧ l.Ok q) : Sz 26100 3 (.tuple [.int (r : Nat), .int (b : Nat), .tuple (ls.map Ln.dat)]) := by
  have hi : ∀ n : Nat, n ≤ 9999 → Sz 1010 0 (.int (n : Nat)) := fun n h => sz_int (Nat.lt_of_le_of_lt (show n ≤ 9999 from h) (by decide +kernel))
  have each : ∀ d ∈ ls.map Ln.dat, Sz 1500 1 d := fun d hd => by
    obtain ⟨l, hl, rfl⟩ := List.mem_map.mp hd
    obtain ⟨q, hq, o⟩ := ok l hl
    exact sz_ln hq o
  have z : Sz 24040 2 (.tuple (ls.map Ln.dat)) := by
    refine sz_tup' (k := 1) (okVAll_of fun d hd => (each d hd).ok) ?_ (depthAll_le fun d hd => (each d hd).dp)
    have : ∀ l : List PyData, (∀ d ∈ l, wV d ≤ 1500) → wVAll l ≤ 1502 * l.length := by
      intro l
      induction l with
      | nil => intro _; rw [wVAll]; omega
      | cons x l ih =>
        intro hh
        have := ih fun d hd => hh d (List.mem_cons_of_mem _ hd)
        have := hh x (List.mem_cons_self ..)
        rw [wVAll, List.length_cons]; omega
    have := this (ls.map Ln.dat) fun d hd => (each d hd).w
    rw [List.length_map] at this
    omega
  have h1 := hi r hr
  have h2 := hi b hb
  refine sz_tup' (k := 2) (by rw [okVAll, okVAll, okVAll, okVAll, h1.ok, h2.ok, z.ok]; rfl) (by rw [wVAll, wVAll, wVAll, wVAll]; have := h1.w; have := h2.w; have := z.w; omega) ?_
  rw [PyData.depthAll, PyData.depthAll, PyData.depthAll, PyData.depthAll]
  have := h1.dp; have := h2.dp; have := z.dp; omega
theorem noLst_lns : ∀ ls : List Ln, noLstAll (ls.map Ln.dat) = true
  | [] => rfl
  | l :: ls => by
    show (noLst l.dat && noLstAll (ls.map Ln.dat)) = true
    rw [noLst_lns ls]
    cases l <;> rfl
theorem sz_blk {b : Blk} (ok : b.Ok) : Sz 26100 3 b.dat := sz_b3 ok.req_ (by have := ok.req_; have := ok.base_; omega) ok.len_ fun l hl => ⟨_, ok.req_, ok.lns_ l hl⟩
/-- what two reads of the same entries give -/
theorem dle_res {o : Option (List Fd)} (n : Nat) (h : ∀ fs, o = some fs → fs.length ≤ 16) : DLe (n + 2) (resD o) := by
  cases o with
  | none => exact True.intro
  | some fs =>
    have := h fs rfl
    refine ⟨by rw [List.length_map]; omega, fun d hd => ?_⟩
    obtain ⟨f, _, rfl⟩ := List.mem_map.mp hd
    refine ⟨by show 2 ≤ 100000; omega, fun e he => ?_⟩
    simp only [List.mem_cons, List.not_mem_nil, or_false] at he
    rcases he with rfl | rfl <;> (cases n <;> simp [DLe])
/-- pairs made of a dict, from its end: all as they were -/
theorem prs_paired {K : PySem.W.Frag} {H : Hp} : ∀ {ps : List Addr} {kvs : List (Key × V)}, Paired (fun p (kv : Key × V) => SqT K H p [kV kv.1, kv.2]) ps kvs → ps.length = kvs.length
  | _, _, .nil => rfl
  | _, _, .cons _ t => by rw [List.length_cons, List.length_cons, prs_paired t]
end Fld
namespace Fld
open PySem PySem.Spec PyProof.Rows L2
theorem val_mem {κ : Type} [DecidableEq κ] : ∀ {kvs : List (κ × V)} {kv : κ × V}, (kvs.map (·.1)).Nodup → kv ∈ kvs → valV kvs kv.1 = some kv.2
  | x :: kvs, kv, nd, h => by
    rw [List.map_cons, List.nodup_cons] at nd
    rcases List.mem_cons.mp h with rfl | h
    · exact valV_pos rfl
    · rw [valV_neg fun z => nd.1 (List.mem_map.mpr ⟨kv, h, z.symm⟩)]
      exact val_mem nd.2 h
end Fld
namespace Fld
open PySem PySem.Spec PyProof.Rows L2
/-- a start of a list: of no items, or of two -/
theorem cut_two (xs : List V) (b : Bool) : cutV xs none (some (2 * (if b = true then 1 else 0))) = xs.take (2 * b.toNat) := by
  cases b
  · exact cut_to xs 0
  · exact cut_to xs 2
end Fld
/-! the table: its mirror, its object, what its calls promise -/
namespace Fld
open PySem PySem.Spec PyProof.Rows L2
def fsz (f : Fd) : Nat := f.1.length + f.2.length + 4
def sumE (es : Ent) : Nat := (es.map fun e => fsz e.2).sum
def keepE (b m : Nat) : Ent → Ent
  | [] => []
  | e :: es => if m + sumE (e :: es) ≤ b then e :: es else keepE b m es
def goneE (b m : Nat) : Ent → Ent
  | [] => []
  | e :: es => if m + sumE (e :: es) ≤ b then [] else e :: goneE b m es
theorem sumE_cons (e : Nat × Fd) (es : Ent) : sumE (e :: es) = fsz e.2 + sumE es := by unfold sumE; rw [List.map_cons, List.sum_cons]
theorem sumE_app (es fs : Ent) : sumE (es ++ fs) = sumE es + sumE fs := by
  induction es with
  | nil => rw [List.nil_append]; show _ = 0 + _; omega
  | cons e es ih => rw [List.cons_append, sumE_cons, sumE_cons, ih]; omega
theorem gone_keep (b m : Nat) : ∀ es : Ent, goneE b m es ++ keepE b m es = es
  | [] => rfl
  | e :: es => by
    unfold goneE keepE
    by_cases c : m + sumE (e :: es) ≤ b
    · rw [if_pos c, if_pos c]; rfl
    · rw [if_neg c, if_neg c, List.cons_append, gone_keep b m es]
theorem gone_take {b m : Nat} : ∀ (es : Ent) (i : Nat), i ≤ es.length → (∀ j, j < i → ¬ m + sumE (es.drop j) ≤ b) → (i = es.length ∨ m + sumE (es.drop i) ≤ b) → goneE b m es = es.take i ∧ keepE b m es = es.drop i
  | [], i, h, _, _ => by
    have : i = 0 := by simpa using h
    subst this; exact ⟨rfl, rfl⟩
  | e :: es, 0, _, _, h => by
    rcases h with h | h
    · cases h
    · have h' : m + sumE (e :: es) ≤ b := h
      unfold goneE keepE
      rw [if_pos h', if_pos h']
      exact ⟨rfl, rfl⟩
  | e :: es, i + 1, hl, hj, h => by
    have h0 : ¬ m + sumE (e :: es) ≤ b := hj 0 (by omega)
    obtain ⟨h1, h2⟩ := gone_take es i (by simpa using hl) (fun j hj' => hj (j + 1) (by omega)) (by
      rcases h with h | h
      · exact .inl (by simpa using h)
      · exact .inr h)
    unfold goneE keepE
    rw [if_neg h0, if_neg h0, h1, h2]
    exact ⟨rfl, rfl⟩
theorem keep_sum {b m : Nat} (hm : m ≤ b) : ∀ es : Ent, m + sumE (keepE b m es) ≤ b
  | [] => by show m + 0 ≤ b; omega
  | e :: es => by
    unfold keepE
    split
    · assumption
    · exact keep_sum hm es
theorem keep_sub (b m : Nat) (es : Ent) : (keepE b m es).Sublist es := by
  have h := gone_keep b m es
  have := List.sublist_append_right (goneE b m es) (keepE b m es)
  rwa [h] at this
structure Tb where
  bound : Nat
  made : Nat
  es : Ent
structure TbOk (r : Nat) (t : Tb) : Prop where
  rm : r ≤ 120
  bd : t.bound ≤ r
  sum : sumE t.es ≤ t.bound
  asc : (t.es.map (·.1)).Pairwise (· < ·)
  lt : ∀ e ∈ t.es, e.1 < t.made
  mad : t.made ≤ 9999
  fd : ∀ e ∈ t.es, FdOk e.2
theorem fsz_ge {f : Fd} (h : FdOk f) : 5 ≤ fsz f ∧ fsz f ≤ 64 := by
  have h1 : (decide ((1 : Int) ≤ (f.1.length : Int)) && decide ((f.1.length : Int) ≤ 20) && f.1.cps.toList.all isChar) = true := h.n
  have h2 := txt_len h.v
  simp only [Bool.and_eq_true, decide_eq_true_eq] at h1
  unfold fsz
  omega
theorem sum_len : ∀ {es : Ent}, (∀ e ∈ es, FdOk e.2) → 5 * es.length ≤ sumE es
  | [], _ => Nat.le_refl _
  | e :: es, h => by
    have := sum_len (es := es) fun x hx => h x (List.mem_cons_of_mem _ hx)
    have := (fsz_ge (h e (List.mem_cons_self ..))).1
    rw [sumE_cons, List.length_cons]; omega
theorem TbOk.len {r : Nat} {t : Tb} (h : TbOk r t) : t.es.length ≤ 24 := by
  have := sum_len h.fd
  have := h.sum
  have := h.bd
  have := h.rm
  omega
theorem TbOk.nd {r : Nat} {t : Tb} (h : TbOk r t) : (t.es.map (·.1)).Nodup := List.Pairwise.imp (fun h => Nat.ne_of_lt h) h.asc
def lookI (es : Ent) (z : Int) : Option Fd := if z < 0 then none else lookE es z.toNat
def insF (F : List Fd) (t : Tb) : Ins → Option Fd
  | .new y x => some (y, x)
  | .again n => lookI t.es ((t.made : Int) - 1 - (n : Int))
  | .fixed n x => (F[n]?).map fun f => (f.1, x)
  | .entry n x => (lookI t.es ((t.made : Int) - 1 - (n : Int))).map fun f => (f.1, x)
  | .limit _ => none
def putT (t : Tb) (f : Fd) : Tb := ⟨t.bound, t.made + 1, keepE t.bound (fsz f) t.es ++ [(t.made, f)]⟩
def roomT (t : Tb) (f : Fd) : Bool := decide (fsz f ≤ t.bound) && decide (t.made < 9999)
def stepT (F : List Fd) (r : Nat) (t : Tb) : Ins → Option Tb
  | .limit n => if n ≤ r then some ⟨n, t.made, keepE n 0 t.es⟩ else none
  | i => match insF F t i with
    | none => none
    | some f => if roomT t f = true then some (putT t f) else none
theorem look_mem2 {es : Ent} {z : Int} {f : Fd} (h : lookI es z = some f) : ∃ n, (n, f) ∈ es := by
  unfold lookI at h
  split at h
  · cases h
  · exact ⟨_, look_mem h⟩
theorem insF_ok {F : List Fd} {t : Tb} {i : Ins} {f : Fd} {r : Nat} (hF : ∀ f ∈ F, FdOk f) (h : TbOk r t) (hi : i.Ok) (e : insF F t i = some f) : FdOk f := by
  cases i with
  | new y x => cases e; exact ⟨hi.1, hi.2⟩
  | limit n => cases e
  | again n => obtain ⟨k, hk⟩ := look_mem2 e; exact h.fd _ hk
  | fixed n x =>
    obtain ⟨g, hg, rfl⟩ := Option.map_eq_some_iff.mp e
    exact ⟨(hF g (List.mem_of_getElem? hg)).n, hi.2⟩
  | entry n x =>
    obtain ⟨g, hg, rfl⟩ := Option.map_eq_some_iff.mp e
    obtain ⟨k, hk⟩ := look_mem2 hg
    exact ⟨(h.fd _ hk).n, hi.2⟩
theorem keep_ok {r b m : Nat} {t : Tb} (h : TbOk r t) : ((keepE b m t.es).map (·.1)).Pairwise (· < ·) ∧ (∀ e ∈ keepE b m t.es, e.1 < t.made) ∧ ∀ e ∈ keepE b m t.es, FdOk e.2 :=
  ⟨List.Pairwise.sublist (List.Sublist.map _ (keep_sub b m t.es)) h.asc, fun e he => h.lt e ((keep_sub b m t.es).subset he), fun e he => h.fd e ((keep_sub b m t.es).subset he)⟩
theorem TbOk.limit {r n : Nat} {t : Tb} (h : TbOk r t) (hn : n ≤ r) : TbOk r ⟨n, t.made, keepE n 0 t.es⟩ := by
  obtain ⟨h1, h2, h3⟩ := keep_ok (b := n) (m := 0) h
  exact ⟨h.rm, hn, by have := keep_sum (b := n) (m := 0) (by omega) t.es; show sumE (keepE n 0 t.es) ≤ n; omega, h1, h2, h.mad, h3⟩
theorem TbOk.put {r : Nat} {t : Tb} {f : Fd} (h : TbOk r t) (hf : FdOk f) (hr : roomT t f = true) : TbOk r (putT t f) := by
  obtain ⟨h1, h2, h3⟩ := keep_ok (b := t.bound) (m := fsz f) h
  unfold roomT at hr
  rw [Bool.and_eq_true, decide_eq_true_eq, decide_eq_true_eq] at hr
  refine ⟨h.rm, h.bd, ?_, ?_, ?_, by show t.made + 1 ≤ 9999; omega, ?_⟩
  · show sumE (keepE t.bound (fsz f) t.es ++ [(t.made, f)]) ≤ t.bound
    rw [sumE_app, sumE_cons]
    have := keep_sum hr.1 t.es
    show sumE (keepE t.bound (fsz f) t.es) + (fsz f + 0) ≤ t.bound
    omega
  · show ((keepE t.bound (fsz f) t.es ++ [(t.made, f)]).map (·.1)).Pairwise (· < ·)
    rw [List.map_append, List.pairwise_append]
    refine ⟨h1, by simp, ?_⟩
    intro a ha b hb
    obtain ⟨e, he, rfl⟩ := List.mem_map.mp ha
    have : b = t.made := by simpa using hb
    rw [this]; exact h2 e he
  · intro e he
    rcases List.mem_append.mp he with z | z
    · have := h2 e z; show e.1 < t.made + 1; omega
    · rw [List.mem_singleton.mp z]; show t.made < t.made + 1; omega
  · intro e he
    rcases List.mem_append.mp he with z | z
    · exact h3 e z
    · rw [List.mem_singleton.mp z]; exact hf
theorem TbOk.step {F : List Fd} {r : Nat} {t t' : Tb} {i : Ins} (hF : ∀ f ∈ F, FdOk f) (h : TbOk r t) (hi : i.Ok) (e : stepT F r t i = some t') : TbOk r t' := by
  have go : ∀ (o : Option Fd), (∀ f, o = some f → FdOk f) → (match o with | none => none | some f => if roomT t f = true then some (putT t f) else none) = some t' → TbOk r t' := by
    intro o ho e
    cases o with
    | none => cases e
    | some f =>
      simp only at e
      split at e
      · cases e; exact h.put (ho f rfl) (by assumption)
      · cases e
  cases i with
  | limit n =>
    unfold stepT at e
    simp only at e
    split at e
    · cases e; exact h.limit (by assumption)
    · cases e
  | new y x => exact go _ (fun f e2 => insF_ok hF h hi e2) e
  | again n => exact go _ (fun f e2 => insF_ok hF h hi e2) e
  | fixed n x => exact go _ (fun f e2 => insF_ok hF h hi e2) e
  | entry n x => exact go _ (fun f e2 => insF_ok hF h hi e2) e
/-- all instructions, or the number of the first that cannot be carried out -/
def runT (F : List Fd) (r : Nat) (t : Tb) (k : Nat) : List Ins → Except Nat Tb
  | [] => .ok t
  | i :: is => match stepT F r t i with
    | none => .error k
    | some t' => runT F r t' (k + 1) is
def tb0 (r : Nat) : Tb := ⟨r, 0, []⟩
theorem tb0_ok {r : Nat} (h : r ≤ 120) : TbOk r (tb0 r) := ⟨h, Nat.le_refl _, Nat.zero_le _, .nil, fun _ h => (nomatch h), by show 0 ≤ 9999; omega, fun _ h => (nomatch h)⟩
/-! ### lists of a dict -/
theorem dropE_head {e : Nat × Fd} {es : Ent} (h : ((e :: es).map (·.1)).Pairwise (· < ·)) : dropE (e :: es) e.1 = es := by
  rw [List.map_cons, List.pairwise_cons] at h
  unfold dropE
  rw [List.filter_cons, if_neg (by simp), List.filter_eq_self.mpr]
  intro x hx
  have := h.1 x.1 (List.mem_map.mpr ⟨x, hx, rfl⟩)
  exact decide_eq_true (by omega)
theorem putE_new {n : Nat} {f : Fd} {es : Ent} (h : ∀ e ∈ es, e.1 < n) : putE es n f = es ++ [(n, f)] := by
  unfold putE
  rw [if_neg]
  intro z
  obtain ⟨e, he, e2⟩ := List.any_eq_true.mp z
  have := h e he
  have := of_decide_eq_true e2
  omega
/-- these objects may have changed -/
def ButS (S : List Addr) (H H' : Hp) : Prop := ∀ b o, b ∉ S → H b = some o → H' b = some o
theorem ButS.of {S : List Addr} {H H' : Hp} (s : Same H H') : ButS S H H' := fun b o _ e => s b o e
theorem ButS.trans {S : List Addr} {H H1 H2 : Hp} (a : ButS S H H1) (b : ButS S H1 H2) : ButS S H H2 := fun c o n e => b c o n (a c o n e)
theorem ButS.mono {S S' : List Addr} {H H1 : Hp} (a : ButS S H H1) (h : ∀ b ∈ S, b ∈ S') : ButS S' H H1 := fun c o n e => a c o (fun z => n (h c z)) e
theorem ButS.set {S : List Addr} {H : Hp} {q : Addr} {o : HO} (h : q ∈ S) : ButS S H (upd H q o) := fun b u n e => by
  have nb : b ≠ q := fun z => n (by rw [z]; exact h)
  rw [upd_ne nb]; exact e
theorem ButS.ts {S : List Addr} {H H' : Hp} (b : ButS S H H') (h : ∀ a ∈ S, ∀ o, H a = some o → ¬ IsTupO o) : TS H H' := fun a u t e => by
  by_cases z : a ∈ S
  · exact absurd t (h a z u e)
  · exact b a u z e
/-- the table at a, its entries at D -/
def tfs (sv : V) (t : Tb) (D : Addr) : List (Str × V) := [("setting", sv), ("bound", .int (t.bound : Nat)), ("made", .int (t.made : Nat)), ("kept", .ref D)]
structure TblV (K : PySem.W.Frag) (C : Addr) (H : Hp) (a D : Addr) (sv : V) (F : List Fd) (r w : Nat) (t : Tb) : Prop where
  ob : ∃ dx, H a = some (.ins C dx (tfs sv t D))
  en : EntV K H D t.es
  st : SetV K H sv F r w
theorem TblV.ne {K : PySem.W.Frag} {C : Addr} {H : Hp} {a D : Addr} {sv : V} {F : List Fd} {r w : Nat} {t : Tb} (h : TblV K C H a D sv F r w t) : D ≠ a := by
  obtain ⟨dx, e⟩ := h.ob
  obtain ⟨kvs, e2, _⟩ := h.en
  intro z
  rw [z, e] at e2; cases e2
theorem TblV.same {K : PySem.W.Frag} {C : Addr} {H H' : Hp} {a D : Addr} {sv : V} {F : List Fd} {r w : Nat} {t : Tb} (h : TblV K C H a D sv F r w t) (s : Same H H') : TblV K C H' a D sv F r w t := by
  obtain ⟨dx, e⟩ := h.ob
  exact ⟨⟨dx, s _ _ e⟩, h.en.same s, h.st.ts (.of s)⟩
theorem TblV.nt {K : PySem.W.Frag} {C : Addr} {H : Hp} {a D : Addr} {sv : V} {F : List Fd} {r w : Nat} {t : Tb} (h : TblV K C H a D sv F r w t) : ∀ b ∈ [a, D], ∀ o, H b = some o → ¬ IsTupO o := by
  obtain ⟨dx, e⟩ := h.ob
  obtain ⟨kvs, e2, _⟩ := h.en
  intro b hb o ho
  simp only [List.mem_cons, List.not_mem_nil, or_false] at hb
  rcases hb with rfl | rfl
  · rw [e] at ho; cases ho; exact nt_ins
  · rw [e2] at ho; cases ho; exact nt_dK
def sp_entry_size (K : PySem.W.Frag) : Sp := fun vs H Q _ => ∃ (v : V) (f : Fd), vs = [v] ∧ FdV K H v f ∧ FdOk f ∧ Q (.int (fsz f : Nat)) H
def sp_Table_init (K : PySem.W.Frag) : Sp := fun vs H Q _ => ∃ (a C dx : Addr) (sv : V) (F : List Fd) (r w : Nat), vs = [.ref a, sv] ∧ H a = some (.ins C dx []) ∧ Cls K C ∧ NoAttr K C "setting" ∧ NoAttr K C "bound" ∧ NoAttr K C "made" ∧ NoAttr K C "kept" ∧ SetV K H sv F r w ∧
  ∀ D H', D ≠ a → H D = none → (∀ b, b ≠ a → b ≠ D → H' b = H b) → H' a = some (.ins C dx (tfs sv (tb0 r) D)) → H' D = some (.dK []) → Q .non H'
def sp_has_room (K : PySem.W.Frag) (C : Addr) : Sp := fun vs H Q _ => ∃ (a D : Addr) (sv v : V) (F : List Fd) (r w : Nat) (t : Tb) (f : Fd), vs = [.ref a, v] ∧ TblV K C H a D sv F r w t ∧ FdV K H v f ∧ FdOk f ∧ Q (.bl (roomT t f)) H
def eInts (es : Ent) : List V := es.map fun e => V.int ((e.1 : Nat) : Int)
def sp_leaving (K : PySem.W.Frag) (C : Addr) : Sp := fun vs H Q _ => ∃ (a D : Addr) (sv : V) (F : List Fd) (r w b m : Nat) (t : Tb), vs = [.ref a, .int b, .int m] ∧ TblV K C H a D sv F r w t ∧ TbOk r t ∧ m ≤ 1000 ∧ b ≤ 1000 ∧
  ∀ L H', H L = none → Same H H' → H' L = some (.lst (eInts (goneE b m t.es))) → Q (.ref L) H'
def sp_drop (K : PySem.W.Frag) (C : Addr) : Sp := fun vs H Q _ => ∃ (a D L : Addr) (sv : V) (F : List Fd) (r w b m : Nat) (t : Tb), vs = [.ref a, .ref L] ∧ TblV K C H a D sv F r w t ∧ TbOk r t ∧ H L = some (.lst (eInts (goneE b m t.es))) ∧
  ∀ H', ButS [D] H H' → EntV K H' D (keepE b m t.es) → Q .non H'
def sp_set_bound (K : PySem.W.Frag) (C : Addr) : Sp := fun vs H Q _ => ∃ (a D : Addr) (sv : V) (F : List Fd) (r w n : Nat) (t : Tb), vs = [.ref a, .int n] ∧ TblV K C H a D sv F r w t ∧ TbOk r t ∧
  (¬ n ≤ r → Q (.bl false) H) ∧ (n ≤ r → ∀ H', ButS [a, D] H H' → TblV K C H' a D sv F r w ⟨n, t.made, keepE n 0 t.es⟩ → Q (.bl true) H')
def sp_inserted (K : PySem.W.Frag) (C : Addr) : Sp := fun vs H Q _ => ∃ (a D : Addr) (sv v : V) (F : List Fd) (r w : Nat) (t : Tb) (i : Ins), vs = [.ref a, v] ∧ TblV K C H a D sv F r w t ∧ InsV K H v i ∧ (∀ n, i ≠ .limit n) ∧ F.length ≤ 12 ∧
  ∀ u H', Same H H' → OFd K H' u (insF F t i) → Q u H'
def sp_carry_out (K : PySem.W.Frag) (C : Addr) : Sp := fun vs H Q _ => ∃ (a D : Addr) (sv v : V) (F : List Fd) (r w : Nat) (t : Tb) (i : Ins), vs = [.ref a, v] ∧ TblV K C H a D sv F r w t ∧ TbOk r t ∧ SetOk F r w ∧ InsV K H v i ∧ i.Ok ∧
  (stepT F r t i = none → ∀ H', Same H H' → Q (.bl false) H') ∧ ∀ t', stepT F r t i = some t' → ∀ H', ButS [a, D] H H' → TblV K C H' a D sv F r w t' → Q (.bl true) H'
def sp_referredZ (K : PySem.W.Frag) : Sp := fun vs H Q _ => ∃ (t D : Addr) (F : List Fd) (es : Ent) (z : Int), vs = [.ref t, .ref D, .str "entry", .int z] ∧ TabV K H t D F es ∧ ∀ v, OFd K H v (lookI es z) → Q v H
def sp_said_fieldZ (K : PySem.W.Frag) : Sp := fun vs H Q _ => ∃ (t D u : Addr) (F : List Fd) (es : Ent) (z : Int) (x : Str), vs = [.ref t, .ref D, .ref u] ∧ TabV K H t D F es ∧ SqT K H u [.str "entry", .int z, .str x] ∧
  ∀ r H', Same H H' → OFd K H' r ((lookI es z).map fun f => (f.1, x)) → Q r H'
theorem look_int {K : PySem.W.Frag} {H : Hp} {z : Int} {kvs : List (Key × V)} {es : Ent} (h : Paired (PrV K H) kvs es) : (valV kvs (Sum.inl z) = none ∧ lookI es z = none) ∨ ∃ v f, valV kvs (Sum.inl z) = some v ∧ lookI es z = some f ∧ FdV K H v f := by
  unfold lookI
  by_cases c : z < 0
  · refine .inl ⟨?_, by rw [if_pos c]⟩
    induction h with
    | nil => rfl
    | cons h t ih =>
      rw [valV_neg (by rw [h.1]; intro e; have := Sum.inl.inj e; omega)]
      exact ih
  · rw [if_neg c]
    have e : (Sum.inl z : Key) = nkey z.toNat := by unfold nkey; congr 1; omega
    rw [e]
    exact look_get h
end Fld
namespace Fld
open PySem PySem.Spec PyProof.Rows L2
def fd0 : Nat × Fd := ((0 : Nat), (("" : Str), ("" : Str)))
theorem sum_ints : ∀ es : Ent, (es.map fun e => ((fsz e.2 : Nat) : Int)).sum = ((sumE es : Nat) : Int)
  | [] => rfl
  | e :: es => by rw [List.map_cons, List.sum_cons, sum_ints es, sumE_cons]; omega
theorem sum_range (es : Ent) : ((List.range es.length).map fun i => ((fsz (es.getD i fd0).2 : Nat) : Int)).sum = ((sumE es : Nat) : Int) := by
  rw [range_map es (fun e => ((fsz e.2 : Nat) : Int)) fd0, sum_ints]
theorem drop_at {es : Ent} {i : Nat} {e : Nat × Fd} (h : es[i]? = some e) : es.drop i = e :: es.drop (i + 1) := by
  obtain ⟨hlt, he⟩ := List.getElem?_eq_some_iff.mp h
  rw [List.drop_eq_getElem_cons hlt, he]
/-- a dict locked and set free again -/
theorem unlock {H H' : Hp} {D : Addr} {od : Obj} {u : HO} (hD : H D = some u) (s : Same (upd H D (.frz od u)) H') : Same H (upd H' D u) := fun b o e => by
  by_cases z : b = D
  · subst z; rw [upd_same]; rw [hD] at e; exact e
  · rw [upd_ne z]; exact s b o (by rw [upd_ne z]; exact e)
theorem FnOk_or {P : Program} {w : World} {K : PySem.W.Frag} {mg : Str → Option Value} {base : Heap} {CX : CXT} {k : Nat} {f : Addr} {fd : FuncData} {ps : List Str} {s1 s2 : Sp} (G1 : FnOk P w K mg base CX k f fd ps s1) (G2 : FnOk P w K mg base CX k f fd ps s2) :
    FnOk P w K mg base CX k f fd ps (fun vs H Q E => s1 vs H Q E ∨ s2 vs H Q E) :=
  ⟨fun vs H Q E h => h.elim (G1.1 vs H Q E) (G2.1 vs H Q E), fun a b c d e f g h i j k l m z => z.elim (G1.2 a b c d e f g h i j k l m) (G2.2 a b c d e f g h i j k l m)⟩
end Fld
namespace Fld
open PySem PySem.Spec PyProof.Rows L2
def kd : Ins → Str
  | .again _ => "again"
  | .limit _ => "limit"
  | .fixed _ _ => "fixed"
  | .entry _ _ => "entry"
  | .new _ _ => "new"
theorem kd_at (i : Ins) : atI i.vs 0 = some (.str (kd i)) := by cases i <;> rfl
theorem kd_no {i : Ins} (h : ∀ n, i ≠ .limit n) : decide (V.str (kd i) = V.str "limit") = false := by
  cases i with
  | limit n => exact absurd rfl (h n)
  | again n => show decide (V.str ("again" : Str) = V.str "limit") = false; decide
  | fixed n x => show decide (V.str ("fixed" : Str) = V.str "limit") = false; decide
  | entry n x => show decide (V.str ("entry" : Str) = V.str "limit") = false; decide
  | new y x => show decide (V.str ("new" : Str) = V.str "limit") = false; decide
theorem step_no {F : List Fd} {r : Nat} {t : Tb} {i : Ins} (h : ∀ n, i ≠ .limit n) : stepT F r t i = match insF F t i with | none => none | some f => if roomT t f = true then some (putT t f) else none := by
  cases i with
  | limit n => exact absurd rfl (h n)
  | again n => rfl
  | fixed n x => rfl
  | entry n x => rfl
  | new y x => rfl
theorem InsV.ts {K : PySem.W.Frag} {H H' : Hp} {v : V} {i : Ins} (h : InsV K H v i) (t : TS H H') : InsV K H' v i := let ⟨a, e, s⟩ := h; ⟨a, e, t.tup s⟩
abbrev InssV (K : PySem.W.Frag) (H : Hp) (xs : List V) (is : List Ins) : Prop := Paired (InsV K H) xs is
theorem InssV.ts {K : PySem.W.Frag} {H H' : Hp} {xs : List V} {is : List Ins} (h : InssV K H xs is) (t : TS H H') : InssV K H' xs is := pmap (fun _ _ z => z.ts t) h
theorem runT_ok {F : List Fd} {r : Nat} (hF : ∀ f ∈ F, FdOk f) : ∀ {is : List Ins} {t t' : Tb} {k : Nat}, TbOk r t → (∀ i ∈ is, i.Ok) → runT F r t k is = .ok t' → TbOk r t'
  | [], t, t', k, h, _, e => by cases e; exact h
  | i :: is, t, t', k, h, hi, e => by
    unfold runT at e
    cases c : stepT F r t i with
    | none => rw [c] at e; cases e
    | some u =>
      rw [c] at e
      exact runT_ok hF (h.step hF (hi i (List.mem_cons_self ..)) c) (fun j hj => hi j (List.mem_cons_of_mem _ hj)) e
/-- run_table over a setting and instructions -/
def RunRes (K : PySem.W.Frag) (N : Addr) (H : Hp) (Q : VK) (E : XK) : Except Nat Tb → Prop
  | .ok t => ∀ D p H', H D = none → H p = none → Same H H' → H' p = some (.tup [.int (t.made : Nat), .ref D]) → EntV K H' D t.es → Q (.ref p) H'
  | .error k => ∀ d H', Same H H' → H' d = some (.xd [("number", .int (k : Nat))]) → E (.ref N) (some d) H'
def sp_run_table (K : PySem.W.Frag) (N : Addr) : Sp := fun vs H Q E => ∃ (sv : V) (L : Addr) (F : List Fd) (r w : Nat) (xs : List V) (is : List Ins), vs = [sv, .ref L] ∧ SetV K H sv F r w ∧ SetOk F r w ∧ SqL K H L xs ∧ InssV K H xs is ∧ (∀ i ∈ is, i.Ok) ∧ is.length ≤ 1000 ∧
  RunRes K N H Q E (runT F r (tb0 r) 0 is)
end Fld
/-! the law's own table: states, what its draws promise -/
namespace Fld
open PySem PySem.Spec PyProof.Rows L2
/-- all tuples and dicts stand -/
def KS (H H' : Hp) : Prop := ∀ a u, (IsTupO u ∨ ∃ kvs, u = .dK kvs) → H a = some u → H' a = some u
theorem KS.refl (H : Hp) : KS H H := fun _ _ _ e => e
theorem KS.trans {H H1 H2 : Hp} (a : KS H H1) (b : KS H1 H2) : KS H H2 := fun c u t e => b c u t (a c u t e)
theorem KS.of {H H1 : Hp} (s : Same H H1) : KS H H1 := fun c u _ e => s c u e
theorem KS.ts {H H1 : Hp} (k : KS H H1) : TS H H1 := fun a u t e => k a u (.inl t) e
theorem KS.but {p : Addr} {H H' : Hp} {xs : List V} (b : But p H H') (h : H p = some (.lst xs)) : KS H H' := fun a u t e => by
  by_cases z : a = p
  · subst z; rw [h] at e; cases e
    rcases t with t | ⟨_, t⟩
    · exact absurd t nt_lst
    · cases t
  · exact b a u z e
theorem KS.drew {p c : Addr} {H H' : Hp} {n m : Nat} (hp : Pen H p c n) (d : Drew p c H H' m) : KS H H' := by
  obtain ⟨⟨xs, e⟩, _⟩ := hp.some
  exact KS.but d.but e
theorem KS.at {H : Hp} {q : Addr} {xs : List V} {o : HO} (h : H q = some (.lst xs)) : KS H (upd H q o) := KS.but But.set h
theorem EntV.ks {K : PySem.W.Frag} {H H' : Hp} {D : Addr} {es : Ent} (h : EntV K H D es) (k : KS H H') : EntV K H' D es := by
  obtain ⟨kvs, e, p⟩ := h
  exact ⟨kvs, k _ _ (.inr ⟨_, rfl⟩) e, pmap (fun _ _ z => z.ts k.ts) p⟩
/-- a state: entries, how many, the bound -/
def StV (K : PySem.W.Frag) (H : Hp) (v : V) (t : Tb) : Prop := ∃ a D, v = .ref a ∧ SqT K H a [.ref D, .int (t.made : Nat), .int (t.bound : Nat)] ∧ EntV K H D t.es
theorem StV.ks {K : PySem.W.Frag} {H H' : Hp} {v : V} {t : Tb} (h : StV K H v t) (k : KS H H') : StV K H' v t := let ⟨a, D, e, s, n⟩ := h; ⟨a, D, e, k.ts.tup s, n.ks k⟩
theorem StV.same {K : PySem.W.Frag} {H H' : Hp} {v : V} {t : Tb} (h : StV K H v t) (s : Same H H') : StV K H' v t := h.ks (.of s)
def sp_law_size (K : PySem.W.Frag) : Sp := fun vs H Q _ => ∃ (v : V) (f : Fd), vs = [v] ∧ FdV K H v f ∧ FdOk f ∧ Q (.int (fsz f : Nat)) H
/-- entries whose numbers rise -/
structure Asc (es : Ent) : Prop where
  asc : (es.map (·.1)).Pairwise (· < ·)
  fd : ∀ e ∈ es, FdOk e.2
  len : es.length ≤ 60
theorem Asc.nd {es : Ent} (h : Asc es) : (es.map (·.1)).Nodup := List.Pairwise.imp (fun h => Nat.ne_of_lt h) h.asc
theorem TbOk.ascE {r : Nat} {t : Tb} (h : TbOk r t) : Asc t.es := ⟨h.asc, h.fd, by have := h.len; omega⟩
def sp_without_old (K : PySem.W.Frag) : Sp := fun vs H Q _ => ∃ (D : Addr) (es : Ent) (b m : Nat), vs = [.ref D, .int b, .int m] ∧ EntV K H D es ∧ Asc es ∧ ∀ D' H', H D' = none → Same H H' → EntV K H' D' (keepE b m es) → Q (.ref D') H'
def CarRes (K : PySem.W.Frag) (H : Hp) (Q : VK) : Option Tb → Prop
  | none => ∀ H', Same H H' → Q .non H'
  | some t => ∀ v H', Same H H' → StV K H' v t → Q v H'
def sp_law_carried (K : PySem.W.Frag) : Sp := fun vs H Q _ => ∃ (sv st v : V) (F : List Fd) (r w : Nat) (t : Tb) (i : Ins), vs = [sv, st, v] ∧ SetV K H sv F r w ∧ SetOk F r w ∧ StV K H st t ∧ TbOk r t ∧ t.made < 9999 ∧ InsV K H v i ∧ i.Ok ∧ CarRes K H Q (stepT F r t i)
def sp_draw_step (K : PySem.W.Frag) : Sp := fun vs H Q _ => ∃ (p c : Addr) (n : Nat) (sv st : V) (F : List Fd) (r w : Nat) (t : Tb), vs = [.ref p, sv, st] ∧ Pen H p c n ∧ n ≤ 600000 ∧ SetV K H sv F r w ∧ SetOk F r w ∧ StV K H st t ∧ TbOk r t ∧
  ∀ v i H', InsV K H' v i → i.Ok → Drew p c H H' (n + 150) → Q v H'
def sp_draw_work (K : PySem.W.Frag) : Sp := fun vs H Q _ => ∃ (p c : Addr) (n m : Nat) (sv : V) (F : List Fd) (r w : Nat), vs = [.ref p, sv, .int m] ∧ Pen H p c n ∧ n ≤ 500000 ∧ m ≤ 60 ∧ SetV K H sv F r w ∧ SetOk F r w ∧
  ∀ q L st xs is t H', SqT K H' q [.ref L, st] → L ≠ p → H L = none → H' L = some (.lst xs) → InssV K H' xs is → (∀ i ∈ is, i.Ok) → is.length ≤ m → StV K H' st t → TbOk r t → runT F r (tb0 r) 0 is = .ok t → t.made ≤ is.length → Drew p c H H' (n + 10000) → Q (.ref q) H'
def pairD (es : Ent) : List PyData := es.map fun e => .tuple [.int (e.1 : Nat), fdat e.2]
def sp_law_pairs (K : PySem.W.Frag) : Sp := fun vs H Q _ => ∃ (D : Addr) (es : Ent), vs = [.ref D] ∧ EntV K H D es ∧ Asc es ∧ ∀ v H', Same H H' → Dp K H' v (.list (pairD es)) → Q v H'
/-- the numbers in order -/
theorem sorted_keys {es : Ent} (h : Asc es) {ys : List Int} (p : ys.Perm (es.map fun e => ((e.1 : Nat) : Int))) (o : ys.Pairwise (· ≤ ·)) : ys = es.map fun e => ((e.1 : Nat) : Int) := by
  refine PySem.W.ksm_same p o ?_
  have h1 := h.asc
  rw [List.pairwise_map] at h1 ⊢
  exact List.Pairwise.imp (fun h => by omega) h1
theorem keep_all {b m : Nat} {es : Ent} (h : m + sumE es ≤ b) : keepE b m es = es := by
  cases es with
  | nil => rfl
  | cons e es => unfold keepE; rw [if_pos h]
theorem keep_drop {b m : Nat} {es : Ent} {i : Nat} (hl : i ≤ es.length) (hj : ∀ j, j < i → ¬ m + sumE (es.drop j) ≤ b) (h : m + sumE (es.drop i) ≤ b) : keepE b m es = es.drop i := (gone_take es i hl hj (.inr h)).2
/-- many steps, one after the other -/
theorem runT_snoc {F : List Fd} {r : Nat} {i : Ins} : ∀ {is : List Ins} {t t' : Tb} {k : Nat}, runT F r t k is = .ok t' → ∀ {u : Tb}, stepT F r t' i = some u → runT F r t k (is ++ [i]) = .ok u
  | [], t, t', k, e, u, h => by
    cases e
    show runT F r t k [i] = _
    unfold runT
    rw [h]; rfl
  | j :: is, t, t', k, e, u, h => by
    unfold runT at e
    rw [List.cons_append]
    unfold runT
    cases c : stepT F r t j with
    | none => rw [c] at e; cases e
    | some v =>
      rw [c] at e
      exact runT_snoc e h
theorem step_made {F : List Fd} {r : Nat} {t t' : Tb} {i : Ins} (e : stepT F r t i = some t') : t'.made ≤ t.made + 1 := by
  have go : ∀ (o : Option Fd), (match o with | none => none | some f => if roomT t f = true then some (putT t f) else none) = some t' → t'.made ≤ t.made + 1 := by
    intro o e
    cases o with
    | none => cases e
    | some f =>
      simp only at e
      split at e
      · cases e; exact Nat.le_refl _
      · cases e
  cases i with
  | limit n =>
    unfold stepT at e
    simp only at e
    split at e
    · cases e; exact Nat.le_succ _
    · cases e
  | new y x => exact go (insF F t (.new y x)) e
  | again n => exact go (insF F t (.again n)) e
  | fixed n x => exact go (insF F t (.fixed n x)) e
  | entry n x => exact go (insF F t (.entry n x)) e
end Fld
namespace Fld
open PySem PySem.Spec PyProof.Rows L2
theorem dpAll_app {K : PySem.W.Frag} {H : Hp} : ∀ {xs ys : List V} {ds es : List PyData}, DpAll K H xs ds → DpAll K H ys es → DpAll K H (xs ++ ys) (ds ++ es)
  | _, _, _, _, .nil, s => s
  | _, _, _, _, .cons r t, s => .cons r (dpAll_app t s)
mutual
/-- data of tuples alone -/
def tupD : PyData → Bool
  | .list _ => false
  | .dict _ => false
  | .tuple xs => tupDAll xs
  | _ => true
def tupDAll : List PyData → Bool
  | [] => true
  | x :: xs => tupD x && tupDAll xs
end
mutual
theorem dp_ts {K : PySem.W.Frag} {H H' : Hp} (t : TS H H') : ∀ {v : V} {d : PyData}, Dp K H v d → tupD d = true → Dp K H' v d
  | _, _, .non, _ => .non
  | _, _, .bl b, _ => .bl b
  | _, _, .int i, _ => .int i
  | _, _, .str x, _ => .str x
  | _, _, .lst h a, n => by rw [tupD] at n; cases n
  | _, _, .tup h a, n => .tup (t.tup h) (dpAll_ts t a (by rw [tupD] at n; exact n))
theorem dpAll_ts {K : PySem.W.Frag} {H H' : Hp} (t : TS H H') : ∀ {vs : List V} {ds : List PyData}, DpAll K H vs ds → tupDAll ds = true → DpAll K H' vs ds
  | _, _, .nil, _ => .nil
  | _, _, .cons h s, n => by
    rw [tupDAll, Bool.and_eq_true] at n
    exact .cons (dp_ts t h n.1) (dpAll_ts t s n.2)
end
theorem tup_pair : ∀ es : Ent, tupDAll (pairD es) = true
  | [] => rfl
  | e :: es => by
    show (tupD (.tuple [.int (e.1 : Nat), fdat e.2]) && tupDAll (pairD es)) = true
    rw [tup_pair es]; rfl
theorem tupD_take : ∀ {ds : List PyData} (n : Nat), tupDAll ds = true → tupDAll (ds.take n) = true
  | _, 0, _ => rfl
  | [], _ + 1, _ => rfl
  | d :: ds, n + 1, h => by
    rw [tupDAll, Bool.and_eq_true] at h
    show (tupD d && tupDAll (ds.take n)) = true
    rw [h.1, tupD_take n h.2]; rfl
theorem pairs_keep {K : PySem.W.Frag} {H H1 H2 : Hp} {ps : List V} {es : Ent} {j : Nat} (h : DpAll K H ps ((pairD es).take j)) (s : Same H H1) (t : TS H1 H2) : DpAll K H2 ps ((pairD es).take j) := dpAll_ts ((TS.of s).trans t) h (tupD_take j (tup_pair es))
end Fld
/-! != of a dict and {}; != of two equal pairs of a number and a dict -/
namespace Fld
open PySem PySem.Spec PyProof.Rows L2
section
variable {X : Cx}
def rNeDic : R2 := fun x y H Q => ∃ a b ks, x = .ref a ∧ y = .ref b ∧ H a = some (.dK ks) ∧ H b = some (.dK []) ∧ Q (.bl (!ks.isEmpty)) H
theorem op_neDic (hu : X.A.units + 64 < cLine) : OpR X (compareOp .NotEq) rNeDic := by
  intro pins s σ H x y v u Q I rx ry h
  obtain ⟨a, b, ks, rfl, rfl, ea, eb, q⟩ := h
  obtain rfl : v = Value.ref a := rx
  obtain rfl : u = Value.ref b := ry
  obtain ⟨_, ya, va, ra, da⟩ := dk_of I.hok ea
  obtain ⟨_, yb, vb, rb, db⟩ := dk_of I.hok eb
  cases rb
  cases ra with
  | nil => exact PySem.W.keq_ne (knd := mixKind X.prog X.w) (r := true) ya yb da db (by omega) (fun _ => .nil) ⟨.bl false, H, I, rfl, q⟩
  | cons h t => exact PySem.W.keq_ne (knd := mixKind X.prog X.w) (r := true) ya yb da db (by omega) (fun z => (nomatch z)) ⟨.bl true, H, I, rfl, q⟩
/-- equal fields -/
theorem fd_eqAt {A : Around} {pins : List (Addr × Obj)} {σ : L2.St} {H : Hp} {s : Shared} (I : Inv X pins σ H s) (hu : A.units + 2 < cLine) {v u : V} {f : Fd} {x y : Value} (h1 : FdV X.K H v f) (h2 : FdV X.K H u f) (rx : RelV v x) (ry : RelV u y) : SeqAt.EqAt A s x y true := by
  obtain ⟨a, rfl, ha⟩ := h1
  obtain ⟨b, rfl, hb⟩ := h2
  cases rx
  cases ry
  by_cases e : a = b
  · subst e; exact SeqAt.EqAt.same _
  obtain ⟨i1, r1, t1, _⟩ := I.tuple ha
  obtain ⟨i2, r2, t2, _⟩ := I.tuple hb
  obtain ⟨x1, x2, rfl, p1, p2⟩ := vals2 r1
  obtain ⟨y1, y2, rfl, q1, q2⟩ := vals2 r2
  obtain ⟨k1, rfl⟩ := p1
  obtain ⟨k2, rfl⟩ := p2
  obtain ⟨k3, rfl⟩ := q1
  obtain ⟨k4, rfl⟩ := q2
  have same : ∀ (z : Str) (t t' : Tok), SeqAt.EqAt A.in1 s (.str z t) (.str z t') true := fun z t t' => by
    have := SeqAt.EqAt.str_str (A := A.in1) (s := s) z t z t'
    rw [beq_self_eq_true] at this; exact this
  refine SeqAt.EqAt.of_refs e ?_
  have := SeqAt.RcAt.tuples (A := A) (s := s) (l := a) (b := b) (e := fun _ => true) t1 t2 (by omega) (fun j h1 h2 => by
    match j, h1, h2 with
    | 0, _, _ => exact same _ _ _
    | 1, _, _ => exact same _ _ _)
  exact this
theorem hits_of {A : Around} {s : Shared} {kb : List (Key × Value)} : ∀ {ka : List (Key × Value)}, (∀ k v, (k, v) ∈ ka → ∃ y, valueAt kb k = some y ∧ SeqAt.EqAt A s v y true) → PySem.W.KeqHits A s kb ka true
  | [], _ => .nil
  | (k, v) :: r, h => by
    obtain ⟨y, h1, h2⟩ := h k v (List.mem_cons_self ..)
    exact PySem.W.KeqHits.hit (e := true) (b := true) h1 h2 (hits_of fun k' v' hm => h k' v' (List.mem_cons_of_mem _ hm))
theorem kv_mem {kvs : List (Key × V)} {vs : List (Key × Value)} (r : KV kvs vs) {k : Key} {x : Value} (h : (k, x) ∈ vs) : ∃ v, (k, v) ∈ kvs ∧ RelV v x := by
  unfold KV at r
  induction r with
  | nil => cases h
  | @cons p q _ _ h1 t ih =>
    rcases List.mem_cons.mp h with e | h
    · refine ⟨p.2, ?_, by have := h1.2; rw [← e] at this; exact this⟩
      have : p.1 = k := by rw [h1.1, ← e]
      rw [← this]; exact List.mem_cons_self ..
    · obtain ⟨v, hv, rv⟩ := ih h
      exact ⟨v, List.mem_cons_of_mem _ hv, rv⟩
theorem pairs_mem {P : Program} {w : World} : ∀ {es : List DictEntry} {vs : List (Key × Value)}, Pairs (mixKind P w) es vs → ∀ e ∈ es, ∃ p ∈ vs, keyIs p.1 e.key = true
  | _, _, .nil, e, h => by cases h
  | _, _, .cons h1 h2 t, e, h => by
    rcases List.mem_cons.mp h with rfl | h
    · exact ⟨_, List.mem_cons_self .., h1⟩
    · obtain ⟨p, hp, k⟩ := pairs_mem t e h
      exact ⟨p, List.mem_cons_of_mem _ hp, k⟩
theorem pairs_any {P P' : Program} {w w' : World} : ∀ {es : List DictEntry} {vs : List (Key × Value)}, Pairs (mixKind P w) es vs → Pairs (mixKind P' w') es vs
  | _, _, .nil => .nil
  | _, _, .cons h1 h2 t => .cons h1 h2 (pairs_any t)
theorem dict_any {P P' : Program} {w w' : World} {h : Heap} {a : Addr} {vs : List (Key × Value)} (hk : ∀ p ∈ vs, ∃ i, p.1 = Sum.inl i) (d : h.DictOf (mixKind P w) a vs) : h.DictOf (mixKind P' w') a vs := by
  obtain ⟨o, es, ep, h1, h2, h3, ko, pr, nd⟩ := d
  refine ⟨o, es, ep, h1, h2, h3, fun e he => ?_, pairs_any pr, nd⟩
  obtain ⟨k, k1, k2⟩ := ko e he
  obtain ⟨p, hp, k3⟩ := pairs_mem pr e (Array.mem_toList_iff.mpr he)
  obtain ⟨i, ei⟩ := hk p hp
  rw [ei] at k3
  rcases keyIs_shape k3 with ⟨j, t, e1, e2⟩ | ⟨x, t, e1, _⟩
  · rcases keyIs_shape k1 with ⟨j', t', e3, _⟩ | ⟨x, t', _, e4⟩
    · subst e3; exact ⟨_, k1, k2⟩
    · rw [e2] at e4; cases e4
  · cases e1
theorem keys_int {K : PySem.W.Frag} {H : Hp} {kvs : List (Key × V)} {es : Ent} {vs : List (Key × Value)} (h : Paired (PrV K H) kvs es) (r : KV kvs vs) : ∀ p ∈ vs, ∃ i, p.1 = Sum.inl i := by
  intro p hp
  have e : p.1 ∈ kvs.map (·.1) := by rw [r.keys]; exact List.mem_map.mpr ⟨p, hp, rfl⟩
  obtain ⟨kv, hkv, e2⟩ := List.mem_map.mp e
  obtain ⟨j, hj⟩ := List.getElem?_of_mem hkv
  obtain ⟨en, _, hpe⟩ := p_at h hj
  exact ⟨_, e2.symm.trans hpe.1⟩
def rNeTD (K : PySem.W.Frag) : R2 := fun x y H Q => ∃ (p q a b : Addr) (n : Int) (es : Ent), x = .ref p ∧ y = .ref q ∧ SqT K H p [.int n, .ref a] ∧ SqT K H q [.int n, .ref b] ∧ EntV K H a es ∧ EntV K H b es ∧ (es.map (·.1)).Nodup ∧ Q (.bl false) H
theorem op_neTD (hu : X.A.units + 64 < cLine) : OpR X (compareOp .NotEq) (rNeTD X.K) := by
  intro pins s σ H x y v u Q I rx ry h
  obtain ⟨p, q, a, b, n, es, rfl, rfl, hp, hq, ⟨ka, ea, pa⟩, ⟨kb, eb, pb⟩, nd, hQ⟩ := h
  obtain rfl : v = Value.ref p := rx
  obtain rfl : u = Value.ref q := ry
  obtain ⟨i1, r1, t1, _⟩ := I.tuple hp
  obtain ⟨i2, r2, t2, _⟩ := I.tuple hq
  obtain ⟨x1, x2, rfl, p1, p2⟩ := vals2 r1
  obtain ⟨y1, y2, rfl, q1, q2⟩ := vals2 r2
  obtain ⟨k1, rfl⟩ := p1
  obtain ⟨k3, rfl⟩ := q1
  cases p2
  cases q2
  obtain ⟨_, ya, va, ra, da⟩ := dk_of I.hok ea
  obtain ⟨_, yb, vb, rb, db⟩ := dk_of I.hok eb
  have hlen : va.length = vb.length := by rw [← ra.length, ← rb.length, p_len pa, p_len pb]
  have eqd : SeqAt.EqAt X.A.in1 s (.ref a) (.ref b) true := by
    by_cases e : a = b
    · subst e; exact SeqAt.EqAt.same _
    refine SeqAt.EqAt.of_refs e fun prog w E Q' h' => ?_
    refine PySem.W.keq_eq (knd := mixKind prog w) (r := true) ya yb (ka := va) (kb := vb) (dict_any (keys_int pa ra) da) (dict_any (keys_int pb rb) db) (by show X.A.units + 1 < cLine; omega) (fun _ => hits_of fun k x hx => ?_) (by rw [hlen]; simpa using h')
    obtain ⟨v1, hv1, rv1⟩ := kv_mem ra hx
    obtain ⟨j, hj⟩ := List.getElem?_of_mem hv1
    obtain ⟨e1, he1, hpe1⟩ := p_at pa hj
    obtain ⟨kv2, hkv2, hpe2⟩ := p_at' pb he1
    have nb := keys_nd pb nd
    have hv2 := val_mem nb (List.mem_of_getElem? hkv2)
    have ek : kv2.1 = k := hpe2.1.trans hpe1.1.symm
    rw [ek] at hv2
    have rr := rb.val k
    rw [hv2] at rr
    obtain ⟨y, hy, ry⟩ := rr.some_of
    exact ⟨y, hy, fd_eqAt I (by show X.A.units + 1 + 1 + 2 < cLine; omega) hpe1.2 hpe2.2 rv1 ry⟩
  have eqn : SeqAt.EqAt X.A.in1 s (.int n k1) (.int n k3) true := by
    have := SeqAt.EqAt.int_int (A := X.A.in1) (s := s) n k1 n k3
    rw [beq_self_eq_true] at this; exact this
  have := SeqAt.RcNeAt.tuples (A := X.A) (s := s) (l := p) (b := q) (e := fun _ => true) t1 t2 (by omega) (fun j h1 h2 => by
    match j, h1, h2 with
    | 0, _, _ => exact eqn
    | 1, _, _ => exact eqd)
  exact this X.prog X.w _ _ ⟨.bl false, H, I, rfl, hQ⟩
end
end Fld
namespace Fld
open PySem PySem.Spec PyProof.Rows L2
theorem strOk_txt {x : Str} {a b : Int} (h : txt (.str x) a b = true) : PyData.strOk x = true := by
  show x.cps.all (· < 0x110000) = true
  rw [← Array.all_toList]
  refine List.all_eq_true.mpr fun c hc => decide_eq_true ?_
  have h1 : (charCodes.all fun c => decide (c < 0x110000)) = true := by decide
  exact of_decide_eq_true (List.all_eq_true.mp h1 c (List.contains_iff_mem.mp (List.all_eq_true.mp (txt_all h) c hc)))
theorem lay_fds : ∀ {F : List Fd}, (∀ f ∈ F, FdOk f) → PyData.canLayAll0 (F.map fdat) = true
  | [], _ => by rw [List.map_nil, PyData.canLayAll0]
  | f :: F, h => by
    have hf := h f (List.mem_cons_self ..)
    have h1 : (fdat f).canLay0 = true := by
      show (PyData.tuple [.str f.1, .str f.2]).canLay0 = true
      simp [PyData.canLay0, PyData.canLayAll0, strOk_txt hf.n, strOk_txt hf.v]
    rw [List.map_cons, PyData.canLayAll0, h1, lay_fds fun x hx => h x (List.mem_cons_of_mem _ hx)]
    rfl
theorem fds_shaped {F : List Fd} (h : ∀ f ∈ F, FdOk f) (hl : F.length ≤ 40) : SeqAt.shaped (.tuple (F.map fdat)) = true := by
  have z := (sz_fds h hl).dp
  show (PyData.canLay0 (.tuple (F.map fdat)) && decide (PyData.depth (.tuple (F.map fdat)) ≤ 64)) = true
  rw [decide_eq_true (by omega), PyData.canLay0, lay_fds h]
  rfl
end Fld
/-! a law over work: data of the work, pop, what a state tells -/
namespace Fld
open PySem PySem.Spec PyProof.Rows L2
theorem sz_insD {i : Ins} (ok : i.Ok) : Sz 1500 1 i.dat := by
  have hi : ∀ n : Nat, n ≤ 9999 → Sz 1010 0 (.int (n : Nat)) := fun n h => sz_int (Nat.lt_of_le_of_lt (show n ≤ 9999 from h) (by decide +kernel))
  have hx : ∀ {x : Str}, txt (.str x) 0 40 = true → Sz 402 0 (.str x) := fun h => sz_txt (b := 40) h
  have hy : ∀ {x : Str}, txt (.str x) 1 20 = true → Sz 202 0 (.str x) := fun h => sz_txt (b := 20) h
  have f5 : Sz 52 0 (.str "fixed") := ⟨by decide, by decide, by decide⟩
  have e5 : Sz 52 0 (.str "entry") := ⟨by decide, by decide, by decide⟩
  have a5 : Sz 52 0 (.str "again") := ⟨by decide, by decide, by decide⟩
  have l5 : Sz 52 0 (.str "limit") := ⟨by decide, by decide, by decide⟩
  have n3 : Sz 52 0 (.str "new") := ⟨by decide, by decide, by decide⟩
  have two : ∀ {a b : PyData}, Sz 52 0 a → Sz 1010 0 b → Sz 1500 1 (.tuple [a, b]) := fun ha hb =>
    sz_tup' (k := 0) (by rw [okVAll, okVAll, okVAll, ha.ok, hb.ok]; rfl) (by rw [wVAll, wVAll, wVAll]; have := ha.w; have := hb.w; omega) (by rw [PyData.depthAll, PyData.depthAll, PyData.depthAll]; have := ha.dp; have := hb.dp; omega)
  have tri : ∀ {a b d : PyData}, Sz 52 0 a → Sz 1010 0 b → Sz 402 0 d → Sz 1500 1 (.tuple [a, b, d]) := fun ha hb hd =>
    sz_tup' (k := 0) (by rw [okVAll, okVAll, okVAll, okVAll, ha.ok, hb.ok, hd.ok]; rfl) (by rw [wVAll, wVAll, wVAll, wVAll]; have := ha.w; have := hb.w; have := hd.w; omega) (by rw [PyData.depthAll, PyData.depthAll, PyData.depthAll, PyData.depthAll]; have := ha.dp; have := hb.dp; have := hd.dp; omega)
  cases i with
  | again n => exact two a5 (hi n ok)
  | limit n => exact two l5 (hi n ok)
  | fixed n x => exact tri f5 (hi n ok.1) (hx ok.2)
  | entry n x => exact tri e5 (hi n ok.1) (hx ok.2)
  | new y x => exact tri n3 ((hy ok.1).mono (by omega) (by omega)) (hx ok.2)
def wdat (is : List Ins) : PyData := .list (is.map Ins.dat)
theorem sz_work {is : List Ins} (ok : ∀ i ∈ is, i.Ok) (hl : is.length ≤ 60) : Sz 100000 2 (wdat is) := by
  obtain ⟨h1, h2, h3⟩ := sz_many (b := 1500) (k := 1) (ds := is.map Ins.dat) fun d hd => by
    obtain ⟨i, hi, rfl⟩ := List.mem_map.mp hd
    exact sz_insD (ok i hi)
  rw [List.length_map] at h2
  have : (1500 + 2) * is.length ≤ (1500 + 2) * 60 := Nat.mul_le_mul_left _ hl
  exact sz_lst' h1 (by omega) h3
theorem lay_insD {i : Ins} (ok : i.Ok) : i.dat.canLay0 = true := by
  have S : ∀ x : Str, PyData.strOk x = true → (PyData.str x).canLay0 = true := fun x h => by rw [PyData.canLay0]; exact h
  have two : ∀ (a b : PyData), a.canLay0 = true → b.canLay0 = true → (PyData.tuple [a, b]).canLay0 = true := fun a b ha hb => by simp [PyData.canLay0, PyData.canLayAll0, ha, hb]
  have three : ∀ (a b c : PyData), a.canLay0 = true → b.canLay0 = true → c.canLay0 = true → (PyData.tuple [a, b, c]).canLay0 = true := fun a b c ha hb hc => by simp [PyData.canLay0, PyData.canLayAll0, ha, hb, hc]
  have I : ∀ n : Nat, (PyData.int (n : Nat)).canLay0 = true := fun n => by rw [PyData.canLay0]
  cases i with
  | again n => exact two _ _ (S _ (by decide +kernel)) (I n)
  | limit n => exact two _ _ (S _ (by decide +kernel)) (I n)
  | fixed n x => exact three _ _ _ (S _ (by decide +kernel)) (I n) (S _ (strOk_txt ok.2))
  | entry n x => exact three _ _ _ (S _ (by decide +kernel)) (I n) (S _ (strOk_txt ok.2))
  | new y x => exact three _ _ _ (S _ (by decide +kernel)) (S _ (strOk_txt ok.1)) (S _ (strOk_txt ok.2))
theorem wdat_shaped {is : List Ins} (ok : ∀ i ∈ is, i.Ok) (hl : is.length ≤ 60) : SeqAt.shaped (wdat is) = true := by
  have z := (sz_work ok hl).dp
  have h : ∀ {is : List Ins}, (∀ i ∈ is, i.Ok) → PyData.canLayAll0 (is.map Ins.dat) = true := by
    intro is
    induction is with
    | nil => intro _; rw [List.map_nil, PyData.canLayAll0]
    | cons i is ih =>
      intro h
      rw [List.map_cons, PyData.canLayAll0, lay_insD (h i (List.mem_cons_self ..)), ih fun x hx => h x (List.mem_cons_of_mem _ hx)]
      rfl
  show ((wdat is).canLay0 && decide ((wdat is).depth ≤ 64)) = true
  rw [decide_eq_true (by omega)]
  show ((PyData.list (is.map Ins.dat)).canLay0 && true) = true
  rw [PyData.canLay0, h ok]
  rfl
theorem InssV.dp {K : PySem.W.Frag} {H : Hp} : ∀ {xs : List V} {is : List Ins}, InssV K H xs is → DpAll K H xs (is.map Ins.dat)
  | _, _, .nil => .nil
  | _, _, .cons h t => by
    obtain ⟨a, rfl, s⟩ := h
    exact .cons (dp_ins s) (InssV.dp t)
theorem seqIx {k n : Nat} (h : k < n) : seqIndex? (k : Int) n = some k := by
  unfold seqIndex?
  have h1 : ¬ ((k : Int) < 0) := by omega
  have h2 : (decide (0 ≤ (k : Int)) && decide ((k : Int) < (n : Int))) = true := by
    rw [decide_eq_true (by omega), decide_eq_true (by omega)]; rfl
  simp only [h1, if_false, h2, if_true, Int.toNat_natCast]
theorem p_erase {α β : Type} {R : α → β → Prop} : ∀ {xs : List α} {ys : List β} {k : Nat}, Paired R xs ys → Paired R (xs.eraseIdx k) (ys.eraseIdx k)
  | _, _, _, .nil => .nil
  | _, _, 0, .cons _ t => t
  | _, _, _ + 1, .cons h t => .cons h (p_erase t)
theorem dle_pairs (n : Nat) {es : Ent} (h : es.length ≤ 60) : DLe (n + 3) (.list (pairD es)) := ⟨by unfold pairD; rw [List.length_map]; omega, fun d hd => by
  obtain ⟨e, he, rfl⟩ := List.mem_map.mp hd
  exact dle_2 (dle_int _ _) (dle_2 (dle_str _ _) (dle_str _ _))⟩
/-- the state behind the instructions, if any -/
def stO (F : List Fd) (r : Nat) (is : List Ins) : Option Tb := match runT F r (tb0 r) 0 is with | .ok t => some t | .error _ => none
theorem stO_run {F : List Fd} {r : Nat} {is : List Ins} {t : Tb} (h : stO F r is = some t) : runT F r (tb0 r) 0 is = .ok t := by
  unfold stO at h
  split at h
  · rename_i e; cases h; exact e
  · cases h
theorem runT_app {F : List Fd} {r : Nat} {i : Ins} : ∀ {is : List Ins} {t : Tb} {k : Nat},
    (match runT F r t k (is ++ [i]) with | .ok t => some t | .error _ => none) = (match runT F r t k is with | .ok t => stepT F r t i | .error _ => none)
  | [], t, k => by
    show (match runT F r t k [i] with | .ok t => some t | .error _ => none) = stepT F r t i
    unfold runT
    cases stepT F r t i <;> rfl
  | j :: is, t, k => by
    rw [List.cons_append]
    unfold runT
    cases stepT F r t j with
    | none => rfl
    | some u => exact runT_app
theorem stO_snoc {F : List Fd} {r : Nat} {is : List Ins} {i : Ins} : stO F r (is ++ [i]) = match stO F r is with | some t => stepT F r t i | none => none := by
  unfold stO
  rw [runT_app]
  cases runT F r (tb0 r) 0 is <;> rfl
/-- a state or None -/
def OSt (K : PySem.W.Frag) (H : Hp) (v : V) (r n : Nat) : Option Tb → Prop
  | none => v = .non
  | some t => StV K H v t ∧ TbOk r t ∧ t.made ≤ n
theorem OSt.ks {K : PySem.W.Frag} {H H' : Hp} {v : V} {r n : Nat} {o : Option Tb} (h : OSt K H v r n o) (k : KS H H') : OSt K H' v r n o := by
  cases o with
  | none => exact h
  | some t => exact ⟨h.1.ks k, h.2⟩
theorem penL {H : Hp} {p c L : Addr} {n : Nat} {o : HO} (h : Pen H p c n) (h1 : L ≠ p) (h2 : L ≠ c) : Pen (upd H L o) p c n := h.upd (Ne.symm h1) (Ne.symm h2)
end Fld
/-! a kept error that has a dict: isinstance, its attribute; count and index of Booleans -/
namespace PySem.W
open PySem PySem.Spec PySem.Calls PyProof.Rows
/-- what is written of the class decides `__class__`, whatever the instance's own dict holds -/
theorem own_class_of {K : Frag} {D : Addr} {o : Option Obj} (C : L2.ExcC K D) : findObj K D o "__class__" = some (.bind (.builtin "getset_descriptor.__get__") (.builtin "object.__class__")) := by
  obtain ⟨body, hb, _⟩ := any_some C.hd
  unfold findObj
  simp only [hb, C.ha, Option.bind_some]
  simp [C.hn, C.ht]
/-- error.__class__ is the class -/
theorem own_class_get {P : Program} {w : World} {B : Around} {F : Value → Shared → Prop} {t : Shared} {K : Frag} {e D : Addr} {oe : Obj} {o : Option Obj} {R : Option Value → Shared → Prop} (C : L2.ExcC K D) (hK : K.In t.heap) (J : InstAt t.heap e oe D o) (q : R (some (.ref D)) { t with toks := t.toks + 1 }) :
    wpAny (model P w) B (getAttr? (.ref e) "__class__") R F t := by
  obtain ⟨hp, gs, ds, tk, os⟩ := t
  dsimp only at hK J q ⊢
  have ty := J.type (M := model P w)
  have isB : Looks (model P w) hp (isInstance (.ref e) (.type "BaseException")) true := ty.andThen (looks_subIn hK C.hs)
  have noG := looks_findIn (M := model P w) hK C.hk
  have atA := looks_findIn (M := model P w) hK C.hg
  have cls := looks_find (M := model P w) hK J (own_class_of C)
  have off : (onTheHeap (Value.ref D) && (Value.builtin "BaseException.__getattribute__" == Value.builtin "object.__getattribute__")) = false := by
    rw [show (Value.builtin "BaseException.__getattribute__" == Value.builtin "object.__getattribute__") = false by decide +kernel, Bool.and_false]
  unfold getAttr? getAttrBy? getAttrBy; apply wpAny_bind; apply wpAny_mkText; apply wpAny_bind; apply wpAny_attempt; apply wpAny_holding; apply wpAny_bind
  refine ty.at (wpAny_bind (atA.at (?_ : wpAny _ _ (if (onTheHeap (Value.ref D) && (Value.builtin "BaseException.__getattribute__" == Value.builtin "object.__getattribute__")) = true then _ else _) _ _ _)))
  rw [if_neg (by rw [off]; decide)]; unfold getAttrByItsOwn hookBefore; apply wpAny_bind
  rw [if_pos (show onTheHeap (Value.ref D) = true from rfl)]; refine noG.at ?_; apply wpAny_bind; apply wpAny_attempt; apply wpAny_holding
  unfold callGetattribute boundAndCalled; rw [if_neg (show ¬ ((false && onTheHeap (Value.builtin "BaseException.__getattribute__")) = true) from Bool.false_ne_true), PySem.F.excAttr_ValueError.ga.bind (.ref e)]; apply wpAny_bind; apply wpAny_pure
  refine (?_ : wpAny (model P w) _ (call (.builtin "BaseException.__getattribute__") [.ref e, .str "__class__" tk]) _ _ _)
  apply wpAny_call; refine codeAny_call_builtin PySem.F.excAttr_ValueError.ga.plain PySem.F.entry_bexc_ga ?_
  refine @check_slot (model P w) _ _ ⟨hp, gs, ds, tk + 1, os⟩ "BaseException.__getattribute__" "BaseException" "__getattribute__" (.ref e) [.str "__class__" tk] [] _ ?_ ?_ isB (PySem.F.args_bexc_ga (.ref e) (.str "__class__" tk)) ?_
  · decide +kernel
  · decide +kernel
  unfold Builtin.«object.__getattribute__»; apply wpAny_bind
  refine wpAny_of_eq (a := ((Value.ref e : Value), [Value.str "__class__" tk])) (by first | rfl | (simp only [slotArgs]; rfl)) (wpAny_bind (wpAny_pure (wpAny_bind (ty.at (wpAny_bind (cls.at ?_))))))
  refine (?_ : wpAny (model P w) _ (holding [Value.builtin "object.__class__"] (call (.builtin "getset_descriptor.__get__") [.builtin "object.__class__", .ref e, .ref D]) >>= ret) _ _ _)
  apply wpAny_bind; apply wpAny_holding; refine wpAny_call (class_get (s := ⟨hp, gs, ds, tk + 1, os⟩) (ox := oe) (od := o) hK J C.hm (wpAny_pure ?_))
  refine (?_ : wpAny (model P w) _ (handedOut (.ref D)) _ _ _)
  rw [handedOut_of (v := .ref D) rfl]
  first
    | exact wpAny_pure (wpAny_pure q)
    | exact wpAny_pure q
    | exact wpAny_pure (wpAny_bind (wpAny_pure (wpAny_pure q)))
/-- what isinstance asks of an error with or without a dict -/
theorem kit_err {K : Frag} {e D : Addr} {oe : Obj} {o : Option Obj} (C : L2.ExcC K D) : KitX K (.ref e) (.ref D) (fun h => InstAt h e oe D o) := by
  have isCls : ∃ c d cd sl, K.lookup D = some ⟨c, d, .cls cd, sl⟩ := by
    obtain ⟨cd, hc, _⟩ := any_some C.hd
    unfold clsIn at hc
    split at hc
    · rename_i c' d' cd' sl' h; exact ⟨c', d', cd', sl', h⟩
    · cases hc
  obtain ⟨c, d, cd, sl, hD⟩ := isCls
  refine ⟨fun _ _ _ J => J.type, fun _ _ hK _ => fun A' Q' E' s' k q => ?_, fun h tp dd its n sl' hK htp => ?_, fun hK J q => own_class_get C hK J q⟩
  · unfold isType loadHead
    exact wpAny_bind (wpAny_loadPart (k _ _ (hK _ _ hD)) (wpAny_pure q))
  · cases z : (Value.ref D == Value.ref tp) with
    | false => rfl
    | true =>
      have : D = tp := Value.ref.inj (beq_iff_eq.mp z)
      rw [← this, hK _ _ hD] at htp
      cases htp
end PySem.W
namespace Fld
open PySem PySem.Spec PyProof.Rows L2
/-- at a: a kept error of the class D with these attributes -/
def ErrD (H : Hp) (a D : Addr) (fs : List (Str × V)) : Prop := ∃ d, H a = some (ExK (.ref D) (some d) a) ∧ H d = some (.xd fs)
def rIsXd (K : PySem.W.Frag) : List V → Hp → VK → Prop := fun xs H Q => ∃ (a D : Addr) (fs : List (Str × V)) (c : V) (cv : Value) (b : Bool), xs = [.ref a, c] ∧ ErrD H a D fs ∧ ExcC K D ∧ ClsV c cv ∧ PySem.W.kitOne K (.ref D) cv = some b ∧ Q (.bl b) H
theorem call_isXd {X : Cx} : CallR X (.builtin "isinstance") (rIsXd X.K) := by
  intro pins s σ H xs us Q I r h
  obtain ⟨a, D, fs, c, cv, b, rfl, ⟨d, ha, hd⟩, C, hcv, e, q⟩ := h
  obtain ⟨u1, u2, rfl, r1, r2⟩ := vals2 r
  cases (show u1 = Value.ref a from r1)
  cases hcv.eq r2
  obtain ⟨⟨oe, vs, hget, hz, hv⟩, _⟩ := I.hok a _ ha
  obtain ⟨mA, hns, _⟩ : ObjOk X.prog X.w H s.heap d (.xd fs) := I.hok d _ hd
  obtain ⟨od, ho, _⟩ := lookIn_ns hns
  have J : PySem.W.InstAt s.heap a oe D (some od) := ⟨hget, hz.1, by unfold PySem.W.notCls; rw [hv] <;> rfl, by rw [hz.2]; exact ho⟩
  exact PySem.W.kia_one (PySem.W.kit_err C) I.kIn J e (fun z => nomatch z) fun tk => ⟨.bl b, H, I.kept (t' := tk) fun _ _ z => z, rfl, q⟩
def rIsW (K : PySem.W.Frag) : List V → Hp → VK → Prop := fun xs H Q => rIsU K xs H Q ∨ rIsXd K xs H Q
theorem call_isW {X : Cx} : CallR X (.builtin "isinstance") (rIsW X.K) := by
  intro pins s σ H xs us Q I r h
  rcases h with h | h
  · exact call_isU pins s σ H xs us Q I r h
  · exact call_isXd pins s σ H xs us Q I r h
/-- x.f, x a kept error with this attribute -/
def tXd (K : PySem.W.Frag) (f : Str) (te : TE) : TE := fun σ H Q => te σ H fun x H1 => ∃ (a C : Addr) (fs : List (Str × V)) (v : V), x = .ref a ∧ XfC K C ∧ PySem.W.findIn K (.ref C) f = some none ∧ ErrD H1 a C fs ∧ fs.lookup f = some v ∧ Q v H1
theorem pe_xd {X : Cx} {e : Expr} {te : TE} {pos : Pos} {n : Str} (he : PE X e te) (hb : attributeBase e n X.env (eval e X.env) = eval e X.env := by rfl) : PE X (.Attribute e n pos) (tXd X.K n te) := by
  refine ⟨fun pins s σ H Q I h => attr_of hb (thn (he.run pins s σ H _ I h) fun u s1 hh => ?_)⟩
  obtain ⟨x, H1, I1, rx, a, C, fs, v, ex, T, hno, ⟨d, ha, hd⟩, l, q⟩ := hh
  subst ex
  obtain rfl : u = Value.ref a := rx
  obtain ⟨⟨oe, vs, hget, hz, hv⟩, _⟩ := I1.hok a _ ha
  obtain ⟨mA, hns, hr⟩ : ObjOk X.prog X.w H1 s1.heap d (.xd fs) := I1.hok d _ hd
  obtain ⟨od, ho, hl⟩ := lookIn_ns hns
  obtain ⟨u, hu, ru⟩ := RelO.some_of (v := v) (o := mA n) (by rw [← l]; exact hr n)
  have J : PySem.W.InstAt s1.heap a oe C (some od) := ⟨hget, hz.1, by unfold PySem.W.notCls; rw [hv] <;> rfl, by rw [hz.2]; exact ho⟩
  exact HandSPX.exc_get I1.kIn J T.ga T.gg T.exC (PySem.W.findObj_own T.hdC hno rfl (by rw [hl, hu])) (handed_of ru) ⟨v, H1, I1.tok _, ru, q⟩
/-- list.count(True) -/
def rCntB (K : PySem.W.Frag) : V → List V → Hp → VK → Prop := fun x xs H Q => ∃ (p : Addr) (bs : List Bool), x = .ref p ∧ xs = [.bl true] ∧ SqL K H p (bs.map V.bl) ∧ Q (.int (bs.count true : Nat)) H
theorem bools_of : ∀ {bs : List Bool} {us : List Value}, Vals (bs.map V.bl) us → us = bs.map Value.bool
  | [], _, r => by cases r; rfl
  | b :: bs, _, r => by
    rw [List.map_cons] at r
    cases r with
    | cons h t => rw [List.map_cons, ← bools_of t, show _ = Value.bool b from h]
def yesB : Value → Bool
  | .bool b => b
  | _ => false
theorem cnt_bools : ∀ bs : List Bool, (bs.map Value.bool).countP yesB = bs.count true
  | [] => rfl
  | b :: bs => by
    rw [List.map_cons, List.countP_cons, List.count_cons, cnt_bools bs]
    cases b <;> rfl
theorem mt_cntB {X : Cx} : MtR X "list.count" (rCntB X.K) := by
  intro pins s σ H x xs v us Q I rx rxs h
  obtain ⟨p, bs, rfl, rfl, hs, q⟩ := h
  obtain rfl : v = Value.ref p := rx
  obtain ⟨u, rfl, ru⟩ := rxs.one
  obtain rfl : u = Value.bool true := ru
  obtain ⟨its, rv, ⟨⟨cls, dd, data, sl⟩, n, ho, hc, hdn, hd⟩, hlen⟩ := I.list hs
  simp only at hc hd
  subst hc hd
  have hb := bools_of rv
  refine call_meets PySem.F.slot_list_count ⟨_, ho, rfl⟩ PySem.F.entry_list_count (PySem.F.args_list_count_2 _ _) (SeqAt.list_countAt p its.toArray n dd sl (.bool true) yesB) ⟨ho, fun y hy => ?_, ?_⟩
  · rw [List.mem_toArray, hb] at hy
    obtain ⟨b, _, rfl⟩ := List.mem_map.mp hy
    have := SeqAt.EqAt.bool_bool (A := X.A.in1) (s := s) b true
    cases b <;> exact this
  · refine ⟨.int (bs.count true : Nat), H, I.tok _, ⟨s.toks, ?_⟩, q⟩
    have e : its.toArray.toList.countP yesB = bs.count true := by rw [List.toList_toArray, hb, cnt_bools]
    rw [e]
end Fld
namespace Fld
open PySem PySem.Spec PyProof.Rows L2
theorem FnOk_weak {P : Program} {w : World} {K : PySem.W.Frag} {mg : Str → Option Value} {base : Heap} {CX : CXT} {k : Nat} {f : Addr} {fd : FuncData} {ps : List Str} {s1 s2 : Sp} (G : FnOk P w K mg base CX k f fd ps s1) (h : ∀ vs H Q E, s2 vs H Q E → s1 vs H Q E) : FnOk P w K mg base CX k f fd ps s2 :=
  ⟨fun vs H Q E z => G.1 vs H Q E (h _ _ _ _ z), fun a b c d e f g i j k l m n z => G.2 a b c d e f g i j k l m n (h _ _ _ _ z)⟩
def dWork : PyData → Bool
  | .list ds => ds.all dIns
  | _ => false
theorem dWork_no {d : PyData} (e : subT (tyD d) "list" = false) : dWork d = false := by
  rw [sub_lst] at e
  cases d <;> first | rfl | cases e
def sp_bad_setting (K : PySem.W.Frag) (N : Addr) : Sp := fun vs H _ E => ∃ (v : V) (d : PyData), vs = [v] ∧ Dv K H v d ∧ Lim d ∧ dSetting d = false ∧ ∀ H', Same H H' → E (.ref N) none H'
/-- no setting; a setting and what is no list of instructions -/
def sp_run_wrong1 (K : PySem.W.Frag) (N : Addr) : Sp := fun vs H _ E => ∃ (v u : V) (d : PyData), vs = [v, u] ∧ Dv K H v d ∧ Lim d ∧ dSetting d = false ∧ ∀ H', Same H H' → E (.ref N) none H'
def sp_run_wrong2 (K : PySem.W.Frag) (N : Addr) : Sp := fun vs H _ E => ∃ (v u : V) (F : List Fd) (r w : Nat) (d : PyData), vs = [v, u] ∧ SetV K H v F r w ∧ SetOk F r w ∧ Dv K H u d ∧ Lim d ∧ dWork d = false ∧ ∀ H', Same H H' → E (.ref N) none H'
def dueD : Except Nat Tb → PyData
  | .ok _ => .str "fine"
  | .error k => .tuple [.str "bad", .int (k : Nat)]
/-- the word for a setting and a list -/
def sp_told (K : PySem.W.Frag) : Sp := fun vs H Q _ => ∃ (v u : V), vs = [v, u] ∧
  ((∃ d : PyData, Dv K H v d ∧ Lim d ∧ dSetting d = false ∧ ∀ H', Same H H' → Q (.str "setting") H') ∨
   (∃ (F : List Fd) (r w : Nat) (d : PyData), SetV K H v F r w ∧ SetOk F r w ∧ Dv K H u d ∧ Lim d ∧ dWork d = false ∧ ∀ H', Same H H' → Q (.str "value") H') ∨
   (∃ (L : Addr) (F : List Fd) (r w : Nat) (xs : List V) (is : List Ins), u = .ref L ∧ SetV K H v F r w ∧ SetOk F r w ∧ SqL K H L xs ∧ InssV K H xs is ∧ (∀ i ∈ is, i.Ok) ∧ is.length ≤ 1000 ∧ ∀ x H', Same H H' → Dp K H' x (dueD (runT F r (tb0 r) 0 is)) → Q x H'))
def sp_due (K : PySem.W.Frag) : Sp := fun vs H Q _ => ∃ (v : V) (L : Addr) (F : List Fd) (r w : Nat) (xs : List V) (is : List Ins), vs = [v, .ref L] ∧ SetV K H v F r w ∧ SetOk F r w ∧ SqL K H L xs ∧ InssV K H xs is ∧ (∀ i ∈ is, i.Ok) ∧ is.length ≤ 1000 ∧
  ∀ x H', Same H H' → Dp K H' x (dueD (runT F r (tb0 r) 0 is)) → Q x H'
theorem dIns_ok {i : Ins} (ok : i.Ok) : dIns i.dat = true := by
  have n9 : ∀ n : Nat, n ≤ 9999 → dBtw (.int (n : Nat)) 0 9999 = true := fun n h => nat_btw' (a := 0) (b := 9999) (by omega) h
  cases i with
  | again n => show (true && dBtw (.int (n : Nat)) 0 9999) = true; rw [n9 n ok]; rfl
  | limit n => show (true && dBtw (.int (n : Nat)) 0 9999) = true; rw [n9 n ok]; rfl
  | fixed n x => show (true && (dBtw (.int (n : Nat)) 0 9999 && dTxt (.str x) 0 40)) = true; rw [n9 n ok.1, show dTxt (.str x) 0 40 = true from ok.2]; rfl
  | entry n x => show (true && (dBtw (.int (n : Nat)) 0 9999 && dTxt (.str x) 0 40)) = true; rw [n9 n ok.1, show dTxt (.str x) 0 40 = true from ok.2]; rfl
  | new y x => show (dTxt (.str y) 1 20 && dTxt (.str x) 0 40) = true; rw [show dTxt (.str y) 1 20 = true from ok.1, show dTxt (.str x) 0 40 = true from ok.2]; rfl
theorem sz_lim {b k : Nat} {d : PyData} (z : Sz b k d) (h : b ≤ 10000000 := by decide) : Lim d := ⟨z.ok, Nat.le_trans z.w h⟩
end Fld
namespace Fld
open PySem PySem.Spec PyProof.Rows L2
theorem IsC.not {K : PySem.W.Frag} {C D : Addr} (h : IsC K C) (s : PySem.W.subIn K (.ref D) (.ref C) = some false) (sf : PySem.W.subIn K (.ref C) (.ref C) = some true) : PySem.W.kitOne K (.ref D) (.ref C) = some false := kit_own h.x.hd h.t s fun _ => by
  cases z : (Value.ref D == Value.ref C) with
  | false => rfl
  | true =>
    have : D = C := Value.ref.inj (beq_iff_eq.mp z)
    rw [this, sf] at s; cases s
theorem xfc_of {K : PySem.W.Frag} {C : Addr} (x : ExcC K C) : XfC K C := ⟨x.hg, x.hk, x.hs, x.hd⟩
end Fld
namespace Fld
open PySem PySem.Spec PyProof.Rows L2
/-! ### values that are no settings -/
theorem ts_off {H : Hp} {p : Addr} {xs : List V} (h : H p = some (.lst xs)) : TS H (OffS [p] H) := fun a u t e => by
  have n : a ∉ [p] := fun z => by
    rw [List.mem_singleton.mp z, h] at e; cases e
    exact nt_lst t
  rw [off_ne n]; exact e
theorem bad_a {a b c : PyData} (h : dFields 12 a = false) : dSetting (.tuple [a, b, c]) = false := by
  show (dFields 12 a && _ && _) = false
  rw [h]; rfl
theorem bad_b {a b c : PyData} (h : dBtw b 0 120 = false) : dSetting (.tuple [a, b, c]) = false := by
  show (_ && dBtw b 0 120 && _) = false
  rw [h, Bool.and_false, Bool.false_and]
theorem bad_c {a b c : PyData} (h : dBtw c 0 4 = false) : dSetting (.tuple [a, b, c]) = false := by
  show (_ && dBtw c 0 4) = false
  rw [h, Bool.and_false]
theorem sz_tri' {a b c : PyData} (x : Sz 60000 3 a) (y : Sz 1010 0 b) (z : Sz 1010 0 c) : Sz 100000 4 (.tuple [a, b, c]) := by
  refine sz_tup' (k := 3) ?_ ?_ ?_
  · rw [okVAll, okVAll, okVAll, okVAll, x.ok, y.ok, z.ok]; rfl
  · have := x.w; have := y.w; have := z.w
    rw [wVAll, wVAll, wVAll, wVAll]; omega
  · refine depthAll_le fun d hd => ?_
    simp only [List.mem_cons, List.not_mem_nil, or_false] at hd
    rcases hd with rfl | rfl | rfl
    · exact x.dp
    · exact Nat.le_trans y.dp (by decide)
    · exact Nat.le_trans z.dp (by decide)
theorem sz_triL {a b c : PyData} (x : Sz 60000 3 a) (y : Sz 1010 0 b) (z : Sz 1010 0 c) : Sz 100000 4 (.list [a, b, c]) := by
  refine sz_lst' (k := 3) ?_ ?_ ?_
  · rw [okVAll, okVAll, okVAll, okVAll, x.ok, y.ok, z.ok]; rfl
  · have := x.w; have := y.w; have := z.w
    rw [wVAll, wVAll, wVAll, wVAll]; omega
  · refine depthAll_le fun d hd => ?_
    simp only [List.mem_cons, List.not_mem_nil, or_false] at hd
    rcases hd with rfl | rfl | rfl
    · exact x.dp
    · exact Nat.le_trans y.dp (by decide)
    · exact Nat.le_trans z.dp (by decide)
/-- no setting, not too great -/
def BadS (d : PyData) : Prop := Lim d ∧ dSetting d = false
def fdsD (F : List Fd) : PyData := .tuple (F.map fdat)
def fdsL (F : List Fd) : PyData := .list (F.map fdat)
theorem sz_fdsL {F : List Fd} (h : ∀ f ∈ F, FdOk f) (hl : F.length ≤ 40) : Sz 30000 2 (fdsL F) := by
  obtain ⟨h1, h2, h3⟩ := sz_many (b := 700) (k := 1) (ds := F.map fdat) fun d hd => by
    obtain ⟨f, hf, rfl⟩ := List.mem_map.mp hd
    exact sz_fd (h f hf)
  rw [List.length_map] at h2
  have : (700 + 2) * F.length ≤ (700 + 2) * 40 := Nat.mul_le_mul_left _ hl
  exact sz_lst' h1 (by omega) h3
def bads1 (F : List Fd) (r w : Nat) : List PyData := [.none, .tuple [], .list [], .dict [], .int 7, .list [fdsD F, .int (r : Nat), .int (w : Nat)], .tuple [fdsD F, .int (r : Nat)], .tuple [fdsL F, .int (r : Nat), .int (w : Nat)], .tuple [fdsD F, .int (-1), .int (w : Nat)]]
def bads2 (F : List Fd) (r w : Nat) : List PyData := [.tuple [fdsD F, .int 121, .int (w : Nat)], .tuple [fdsD F, .int (r : Nat), .int 5], .tuple [fdsD F, .int (r : Nat), .int (-1)], .tuple [fdsD F, .bool true, .int 0], .tuple [fdsD F, .int (r : Nat), .none]]
theorem sz_small {n : Nat} (h : n ≤ 9999) : Sz 1010 0 (.int (n : Nat)) := sz_int (Nat.lt_of_le_of_lt (show n ≤ 9999 from h) (by decide +kernel))
theorem bads1_ok {F : List Fd} {r w : Nat} (ok : SetOk F r w) : ∀ d ∈ bads1 F r w, BadS d := by
  have hl := ok.len
  have zf : Sz 60000 3 (fdsD F) := (sz_fds ok.fd (by omega)).mono (by omega) (by omega)
  have zl : Sz 60000 3 (fdsL F) := (sz_fdsL ok.fd (by omega)).mono (by omega) (by omega)
  have ir : Sz 1010 0 (.int (r : Nat)) := sz_small (by have := ok.r; omega)
  have iw : Sz 1010 0 (.int (w : Nat)) := sz_small (by have := ok.w; omega)
  have im : Sz 1010 0 (.int (-1)) := sz_int
  intro d hd
  simp only [bads1, List.mem_cons, List.not_mem_nil, or_false] at hd
  rcases hd with rfl | rfl | rfl | rfl | rfl | rfl | rfl | rfl | rfl
  · exact ⟨⟨by decide, by decide⟩, rfl⟩
  · exact ⟨⟨by decide, by decide⟩, rfl⟩
  · exact ⟨⟨by decide, by decide⟩, rfl⟩
  · exact ⟨⟨by decide, by decide⟩, rfl⟩
  · exact ⟨sz_lim (b := 1010) (k := 0) sz_int, rfl⟩
  · exact ⟨sz_lim (sz_triL zf ir iw), rfl⟩
  · refine ⟨sz_lim (b := 100000) (k := 4) (sz_tup' (k := 3) ?_ ?_ ?_), rfl⟩
    · rw [okVAll, okVAll, okVAll, zf.ok, ir.ok]; rfl
    · have := zf.w; have := ir.w
      rw [wVAll, wVAll, wVAll]; omega
    · refine depthAll_le fun d hd => ?_
      simp only [List.mem_cons, List.not_mem_nil, or_false] at hd
      rcases hd with rfl | rfl
      · exact zf.dp
      · exact Nat.le_trans ir.dp (by decide)
  · exact ⟨sz_lim (sz_tri' zl ir iw), bad_a rfl⟩
  · exact ⟨sz_lim (sz_tri' zf im iw), bad_b (by decide)⟩
theorem bads2_ok {F : List Fd} {r w : Nat} (ok : SetOk F r w) : ∀ d ∈ bads2 F r w, BadS d := by
  have hl := ok.len
  have zf : Sz 60000 3 (fdsD F) := (sz_fds ok.fd (by omega)).mono (by omega) (by omega)
  have ir : Sz 1010 0 (.int (r : Nat)) := sz_small (by have := ok.r; omega)
  have iw : Sz 1010 0 (.int (w : Nat)) := sz_small (by have := ok.w; omega)
  have tr : Sz 1010 0 (.bool true) := ⟨by decide, by decide, by decide⟩
  have nn : Sz 1010 0 .none := ⟨by decide, by decide, by decide⟩
  intro d hd
  simp only [bads2, List.mem_cons, List.not_mem_nil, or_false] at hd
  rcases hd with rfl | rfl | rfl | rfl | rfl
  · exact ⟨sz_lim (sz_tri' zf sz_int iw), bad_b (by decide)⟩
  · exact ⟨sz_lim (sz_tri' zf ir sz_int), bad_c (by decide)⟩
  · exact ⟨sz_lim (sz_tri' zf ir sz_int), bad_c (by decide)⟩
  · exact ⟨sz_lim (sz_tri' zf tr sz_int), bad_b (by decide)⟩
  · exact ⟨sz_lim (sz_tri' zf ir nn), bad_c (by decide)⟩
/-- values beside fields -/
def odds : List PyData := [.tuple [.str "A", .str ""], .tuple [.str "", .str "a"], .tuple [.str "a", .str "B"], .tuple [.str "a"], .none, .str "ab"]
theorem odds_ok : ∀ d ∈ odds, dField d = false ∧ Sz 700 1 d := by
  intro d hd
  simp only [odds, List.mem_cons, List.not_mem_nil, or_false] at hd
  rcases hd with rfl | rfl | rfl | rfl | rfl | rfl <;> exact ⟨by decide +kernel, ⟨by decide +kernel, by decide +kernel, by decide +kernel⟩⟩
theorem bent_fds {F : List Fd} {d : PyData} {k : Nat} (hF : ∀ f ∈ F, FdOk f) (hl : F.length ≤ 12) (hd : dField d = false) (hz : Sz 700 1 d) (hk : k < 12) (hkl : k ≤ F.length) : dFields 12 (.tuple (((F.map fdat).take k ++ [d] ++ (F.map fdat).drop k).take 12)) = false ∧ Sz 60000 3 (.tuple (((F.map fdat).take k ++ [d] ++ (F.map fdat).drop k).take 12)) := by
  have mem : d ∈ (((F.map fdat).take k ++ [d] ++ (F.map fdat).drop k).take 12) := by
    refine List.mem_of_getElem? (i := k) ?_
    rw [List.getElem?_take_of_lt hk, List.append_assoc, List.getElem?_append_right (by rw [List.length_take, List.length_map]; omega)]
    rw [List.length_take, List.length_map, Nat.min_eq_left hkl, Nat.sub_self]; rfl
  refine ⟨?_, ?_⟩
  · show (decide _ && List.all _ dField) = false
    rw [show List.all (((F.map fdat).take k ++ [d] ++ (F.map fdat).drop k).take 12) dField = false from ?_, Bool.and_false]
    refine Bool.eq_false_iff.mpr fun h => ?_
    have := List.all_eq_true.mp h d mem
    rw [hd] at this; cases this
  · obtain ⟨h1, h2, h3⟩ := sz_many (b := 700) (k := 1) (ds := ((F.map fdat).take k ++ [d] ++ (F.map fdat).drop k).take 12) fun e he => by
      have he := List.mem_of_mem_take he
      rcases List.mem_append.mp he with he | he
      · rcases List.mem_append.mp he with he | he
        · obtain ⟨f, hf, rfl⟩ := List.mem_map.mp (List.mem_of_mem_take he)
          exact sz_fd (hF f hf)
        · rw [List.mem_singleton.mp he]; exact hz
      · obtain ⟨f, hf, rfl⟩ := List.mem_map.mp (List.mem_of_mem_drop he)
        exact sz_fd (hF f hf)
    have : (((F.map fdat).take k ++ [d] ++ (F.map fdat).drop k).take 12).length ≤ 12 := by rw [List.length_take]; omega
    have : (700 + 2) * (((F.map fdat).take k ++ [d] ++ (F.map fdat).drop k).take 12).length ≤ (700 + 2) * 12 := Nat.mul_le_mul_left _ this
    exact (sz_tup' (b := 30000) (k := 1) h1 (by omega) h3).mono (by omega) (by omega)
theorem one_fds {d : PyData} (hd : dField d = false) (hz : Sz 700 1 d) : dFields 12 (.tuple [d]) = false ∧ Sz 60000 3 (.tuple [d]) := by
  refine ⟨?_, ?_⟩
  · show (true && (dField d && true)) = false
    rw [hd]; rfl
  · exact (sz_tup' (b := 1000) (k := 1) (by rw [okVAll, okVAll, hz.ok]; rfl) (by rw [wVAll, wVAll]; have := hz.w; omega) (by rw [PyData.depthAll, PyData.depthAll]; have := hz.dp; omega)).mono (by omega) (by omega)
def fab : PyData := .tuple [.str "a", .str "b"]
theorem ab13 : dFields 12 (.tuple (List.replicate 13 fab)) = false ∧ Sz 60000 3 (.tuple (List.replicate 13 fab)) := ⟨rfl, ⟨by decide +kernel, by decide +kernel, by decide +kernel⟩⟩
def sp_wrong_setting (K : PySem.W.Frag) : Sp := fun vs H Q _ => ∃ (p c : Addr) (n : Nat) (v : V) (F : List Fd) (r w : Nat), vs = [.ref p, v] ∧ Pen H p c n ∧ n ≤ 600000 ∧ SetV K H v F r w ∧ SetOk F r w ∧ ∀ x d H', Dv K H' x d → BadS d → Drew p c H H' (n + 10) → Q x H'
end Fld
namespace Fld
open PySem PySem.Spec PyProof.Rows L2
/-! ### values that are no lists of instructions -/
def oddsI : List PyData := [.none, .tuple [.str "new", .str "", .str "a"], .tuple [.str "again", .int (-1)], .list [.str "again", .int 0], .tuple [.str "limit", .bool true], .tuple [.str "fixed", .int 0]]
theorem oddsI_ok : ∀ d ∈ oddsI, dIns d = false ∧ Sz 1500 1 d := by
  intro d hd
  simp only [oddsI, List.mem_cons, List.not_mem_nil, or_false] at hd
  rcases hd with rfl | rfl | rfl | rfl | rfl | rfl <;> exact ⟨by decide +kernel, ⟨by decide +kernel, by decide +kernel, by decide +kernel⟩⟩
structure WL (ds : List PyData) : Prop where
  bad : ∃ d ∈ ds, dIns d = false
  sz : ∀ d ∈ ds, Sz 1500 1 d
  len : ds.length ≤ 20
theorem WL.rev {ds : List PyData} (h : WL ds) : WL ds.reverse := ⟨let ⟨d, m, e⟩ := h.bad; ⟨d, List.mem_reverse.mpr m, e⟩, fun d m => h.sz d (List.mem_reverse.mp m), by rw [List.length_reverse]; exact h.len⟩
def BadW (d : PyData) : Prop := Lim d ∧ dWork d = false
theorem sz_all {ds : List PyData} (h : ∀ d ∈ ds, Sz 1500 1 d) (hl : ds.length ≤ 20) : Sz 50000 2 (.list ds) ∧ Sz 50000 2 (.tuple ds) := by
  obtain ⟨h1, h2, h3⟩ := sz_many (b := 1500) (k := 1) h
  have : (1500 + 2) * ds.length ≤ (1500 + 2) * 20 := Nat.mul_le_mul_left _ hl
  exact ⟨sz_lst' h1 (by omega) h3, sz_tup' h1 (by omega) h3⟩
theorem WL.badW {ds : List PyData} (h : WL ds) : BadW (.list ds) := by
  refine ⟨sz_lim (sz_all h.sz h.len).1, ?_⟩
  show ds.all dIns = false
  obtain ⟨d, m, e⟩ := h.bad
  refine Bool.eq_false_iff.mpr fun z => ?_
  have := List.all_eq_true.mp z d m
  rw [e] at this; cases this
def idat (is : List Ins) : List PyData := is.map Ins.dat
theorem wl_of {is : List Ins} {d : PyData} {ds : List PyData} (ok : ∀ i ∈ is, i.Ok) (hd : dIns d = false) (hz : Sz 1500 1 d) (m : d ∈ ds) (h : ∀ e ∈ ds, e = d ∨ e ∈ idat is ∨ e = (Ins.again 9999).dat) (hl : ds.length ≤ 20) : WL ds := by
  refine ⟨⟨d, m, hd⟩, fun e he => ?_, hl⟩
  rcases h e he with rfl | h | rfl
  · exact hz
  · obtain ⟨i, hi, rfl⟩ := List.mem_map.mp h
    exact sz_insD (ok i hi)
  · exact sz_insD (show (9999 : Nat) ≤ 9999 from Nat.le_refl _)
theorem wl_mid {is : List Ins} {d : PyData} (k : Nat) (ok : ∀ i ∈ is, i.Ok) (hd : dIns d = false) (hz : Sz 1500 1 d) (hl : is.length ≤ 12) : WL ((idat is).take k ++ [d] ++ (idat is).drop k) := by
  refine wl_of ok hd hz (List.mem_append_left _ (List.mem_append_right _ (List.mem_singleton.mpr rfl))) (fun e he => ?_) ?_
  · rcases List.mem_append.mp he with h | h
    · rcases List.mem_append.mp h with h | h
      · exact .inr (.inl (List.mem_of_mem_take h))
      · exact .inl (List.mem_singleton.mp h)
    · exact .inr (.inl (List.mem_of_mem_drop h))
  · rw [List.length_append, List.length_append, List.length_take, List.length_drop]
    have : (idat is).length = is.length := List.length_map ..
    show min k (idat is).length + 1 + _ ≤ 20
    omega
theorem wl_front {is : List Ins} {d : PyData} (ok : ∀ i ∈ is, i.Ok) (hd : dIns d = false) (hz : Sz 1500 1 d) (hl : is.length ≤ 12) : WL ([(Ins.again 9999).dat] ++ idat is ++ [d]) := by
  refine wl_of ok hd hz (List.mem_append_right _ (List.mem_singleton.mpr rfl)) (fun e he => ?_) ?_
  · rcases List.mem_append.mp he with h | h
    · rcases List.mem_append.mp h with h | h
      · exact .inr (.inr (List.mem_singleton.mp h))
      · exact .inr (.inl h)
    · exact .inl (List.mem_singleton.mp h)
  · rw [List.length_append, List.length_append]
    have : (idat is).length = is.length := List.length_map ..
    show 1 + (idat is).length + 1 ≤ 20
    omega
theorem wl_end {is : List Ins} {d : PyData} (ok : ∀ i ∈ is, i.Ok) (hd : dIns d = false) (hz : Sz 1500 1 d) (hl : is.length ≤ 12) : WL (idat is ++ [d]) := by
  refine wl_of ok hd hz (List.mem_append_right _ (List.mem_singleton.mpr rfl)) (fun e he => ?_) ?_
  · rcases List.mem_append.mp he with h | h
    · exact .inr (.inl h)
    · exact .inl (List.mem_singleton.mp h)
  · rw [List.length_append]
    have : (idat is).length = is.length := List.length_map ..
    show (idat is).length + 1 ≤ 20
    omega
theorem p_take {α β : Type} {R : α → β → Prop} : ∀ {xs : List α} {ys : List β} (k : Nat), Paired R xs ys → Paired R (xs.take k) (ys.take k)
  | _, _, 0, _ => .nil
  | _, _, _ + 1, .nil => .nil
  | _, _, k + 1, .cons h t => .cons h (p_take k t)
theorem p_drop {α β : Type} {R : α → β → Prop} : ∀ {xs : List α} {ys : List β} (k : Nat), Paired R xs ys → Paired R (xs.drop k) (ys.drop k)
  | _, _, 0, h => h
  | _, _, _ + 1, .nil => .nil
  | _, _, k + 1, .cons _ t => p_drop k t
end Fld
namespace Fld
open PySem PySem.Spec PyProof.Rows L2
/-! ### the text by places -/
def top (i : Nat) : Stmt := PySem.Challenge.pw_fieldtable_k22_tables_refused.main.body.getD i (.Pass ⟨0, 0, 0, 0⟩)
abbrev s_wall : Stmt := top 0
abbrev s_BadTable_init : Stmt := inClass (top 5) 0
abbrev s_is_between : Stmt := top 14
abbrev s_is_number : Stmt := top 15
abbrev s_is_text : Stmt := top 16
abbrev s_is_name : Stmt := top 17
abbrev s_is_value : Stmt := top 18
abbrev s_is_field : Stmt := top 19
abbrev s_is_tuple_of_fields : Stmt := top 20
abbrev s_is_setting : Stmt := top 21
abbrev s_check_setting : Stmt := top 22
abbrev s_is_instruction : Stmt := top 24
abbrev s_run_table : Stmt := top 27
abbrev s_said_field : Stmt := top 28
abbrev s_referred : Stmt := top 29
abbrev s_entry_size : Stmt := top 30
abbrev s_Table_init : Stmt := inClass (top 31) 0
abbrev s_Table_copied : Stmt := inClass (top 31) 1
abbrev s_Table_carry_out : Stmt := inClass (top 31) 2
abbrev s_Table_set_bound : Stmt := inClass (top 31) 3
abbrev s_Table_inserted : Stmt := inClass (top 31) 4
abbrev s_Table_has_room : Stmt := inClass (top 31) 5
abbrev s_Table_leaving : Stmt := inClass (top 31) 6
abbrev s_Table_drop : Stmt := inClass (top 31) 7
abbrev s_law_open : Stmt := top 33
abbrev s_law_spread : Stmt := top 34
abbrev s_law_take : Stmt := top 35
abbrev s_law_same : Stmt := top 36
abbrev s_law_one_of : Stmt := top 37
abbrev s_law_signs : Stmt := top 38
abbrev s_law_draw_text : Stmt := top 39
abbrev s_law_draw_near_field : Stmt := top 40
abbrev s_law_draw_setting : Stmt := top 41
abbrev s_law_size : Stmt := top 42
abbrev s_law_without_old : Stmt := top 43
abbrev s_law_carried : Stmt := top 44
abbrev s_law_draw_step : Stmt := top 45
abbrev s_law_draw_work : Stmt := top 46
abbrev s_law_wrong_setting : Stmt := top 47
abbrev s_law_told : Stmt := top 48
abbrev s_law_due : Stmt := top 49
abbrev s_law : Stmt := top 50
/-- what the top has written -/
structure Txt (K : PySem.W.Frag) (mg : Str → Option Value) where
  f_wall : Addr
  d_wall : FuncData
  F_wall : Fun K "_wall" "_wall" s_wall f_wall d_wall
  b_wall : Binds K d_wall ["k"] []
  g_wall : mg "_wall" = some (.ref f_wall)
  f_BadTable_init : Addr
  d_BadTable_init : FuncData
  F_BadTable_init : Fun K "__init__" "BadTable.__init__" s_BadTable_init f_BadTable_init d_BadTable_init
  b_BadTable_init : Binds K d_BadTable_init ["self", "number"] []
  f_is_between : Addr
  d_is_between : FuncData
  F_is_between : Fun K "is_between" "is_between" s_is_between f_is_between d_is_between
  b_is_between : Binds K d_is_between ["thing", "least", "most"] []
  g_is_between : mg "is_between" = some (.ref f_is_between)
  f_is_number : Addr
  d_is_number : FuncData
  F_is_number : Fun K "is_number" "is_number" s_is_number f_is_number d_is_number
  b_is_number : Binds K d_is_number ["thing"] []
  g_is_number : mg "is_number" = some (.ref f_is_number)
  f_is_text : Addr
  d_is_text : FuncData
  F_is_text : Fun K "is_text" "is_text" s_is_text f_is_text d_is_text
  b_is_text : Binds K d_is_text ["thing", "least", "most"] []
  g_is_text : mg "is_text" = some (.ref f_is_text)
  f_is_name : Addr
  d_is_name : FuncData
  F_is_name : Fun K "is_name" "is_name" s_is_name f_is_name d_is_name
  b_is_name : Binds K d_is_name ["thing"] []
  g_is_name : mg "is_name" = some (.ref f_is_name)
  f_is_value : Addr
  d_is_value : FuncData
  F_is_value : Fun K "is_value" "is_value" s_is_value f_is_value d_is_value
  b_is_value : Binds K d_is_value ["thing"] []
  g_is_value : mg "is_value" = some (.ref f_is_value)
  f_is_field : Addr
  d_is_field : FuncData
  F_is_field : Fun K "is_field" "is_field" s_is_field f_is_field d_is_field
  b_is_field : Binds K d_is_field ["thing"] []
  g_is_field : mg "is_field" = some (.ref f_is_field)
  f_is_tuple_of_fields : Addr
  d_is_tuple_of_fields : FuncData
  F_is_tuple_of_fields : Fun K "is_tuple_of_fields" "is_tuple_of_fields" s_is_tuple_of_fields f_is_tuple_of_fields d_is_tuple_of_fields
  b_is_tuple_of_fields : Binds K d_is_tuple_of_fields ["thing", "most"] []
  g_is_tuple_of_fields : mg "is_tuple_of_fields" = some (.ref f_is_tuple_of_fields)
  f_is_setting : Addr
  d_is_setting : FuncData
  F_is_setting : Fun K "is_setting" "is_setting" s_is_setting f_is_setting d_is_setting
  b_is_setting : Binds K d_is_setting ["thing"] []
  g_is_setting : mg "is_setting" = some (.ref f_is_setting)
  f_check_setting : Addr
  d_check_setting : FuncData
  F_check_setting : Fun K "check_setting" "check_setting" s_check_setting f_check_setting d_check_setting
  b_check_setting : Binds K d_check_setting ["setting"] []
  g_check_setting : mg "check_setting" = some (.ref f_check_setting)
  f_is_instruction : Addr
  d_is_instruction : FuncData
  F_is_instruction : Fun K "is_instruction" "is_instruction" s_is_instruction f_is_instruction d_is_instruction
  b_is_instruction : Binds K d_is_instruction ["thing"] []
  g_is_instruction : mg "is_instruction" = some (.ref f_is_instruction)
  f_run_table : Addr
  d_run_table : FuncData
  F_run_table : Fun K "run_table" "run_table" s_run_table f_run_table d_run_table
  b_run_table : Binds K d_run_table ["setting", "instructions"] []
  g_run_table : mg "run_table" = some (.ref f_run_table)
  f_said_field : Addr
  d_said_field : FuncData
  F_said_field : Fun K "said_field" "said_field" s_said_field f_said_field d_said_field
  b_said_field : Binds K d_said_field ["fixed", "entries", "line"] []
  g_said_field : mg "said_field" = some (.ref f_said_field)
  f_referred : Addr
  d_referred : FuncData
  F_referred : Fun K "referred" "referred" s_referred f_referred d_referred
  b_referred : Binds K d_referred ["fixed", "entries", "kind", "number"] []
  g_referred : mg "referred" = some (.ref f_referred)
  f_entry_size : Addr
  d_entry_size : FuncData
  F_entry_size : Fun K "entry_size" "entry_size" s_entry_size f_entry_size d_entry_size
  b_entry_size : Binds K d_entry_size ["field"] []
  g_entry_size : mg "entry_size" = some (.ref f_entry_size)
  f_Table_init : Addr
  d_Table_init : FuncData
  F_Table_init : Fun K "__init__" "Table.__init__" s_Table_init f_Table_init d_Table_init
  b_Table_init : Binds K d_Table_init ["self", "setting"] []
  f_Table_copied : Addr
  d_Table_copied : FuncData
  F_Table_copied : Fun K "copied" "Table.copied" s_Table_copied f_Table_copied d_Table_copied
  b_Table_copied : Binds K d_Table_copied ["self"] []
  f_Table_carry_out : Addr
  d_Table_carry_out : FuncData
  F_Table_carry_out : Fun K "carry_out" "Table.carry_out" s_Table_carry_out f_Table_carry_out d_Table_carry_out
  b_Table_carry_out : Binds K d_Table_carry_out ["self", "instruction"] []
  f_Table_set_bound : Addr
  d_Table_set_bound : FuncData
  F_Table_set_bound : Fun K "set_bound" "Table.set_bound" s_Table_set_bound f_Table_set_bound d_Table_set_bound
  b_Table_set_bound : Binds K d_Table_set_bound ["self", "bound"] []
  f_Table_inserted : Addr
  d_Table_inserted : FuncData
  F_Table_inserted : Fun K "inserted" "Table.inserted" s_Table_inserted f_Table_inserted d_Table_inserted
  b_Table_inserted : Binds K d_Table_inserted ["self", "instruction"] []
  f_Table_has_room : Addr
  d_Table_has_room : FuncData
  F_Table_has_room : Fun K "has_room" "Table.has_room" s_Table_has_room f_Table_has_room d_Table_has_room
  b_Table_has_room : Binds K d_Table_has_room ["self", "field"] []
  f_Table_leaving : Addr
  d_Table_leaving : FuncData
  F_Table_leaving : Fun K "leaving" "Table.leaving" s_Table_leaving f_Table_leaving d_Table_leaving
  b_Table_leaving : Binds K d_Table_leaving ["self", "bound", "more"] []
  f_Table_drop : Addr
  d_Table_drop : FuncData
  F_Table_drop : Fun K "drop" "Table.drop" s_Table_drop f_Table_drop d_Table_drop
  b_Table_drop : Binds K d_Table_drop ["self", "numbers"] []
  f_law_open : Addr
  d_law_open : FuncData
  F_law_open : Fun K "_law_open" "_law_open" s_law_open f_law_open d_law_open
  b_law_open : Binds K d_law_open ["script"] []
  g_law_open : mg "_law_open" = some (.ref f_law_open)
  f_law_spread : Addr
  d_law_spread : FuncData
  F_law_spread : Fun K "_law_spread" "_law_spread" s_law_spread f_law_spread d_law_spread
  b_law_spread : Binds K d_law_spread ["cell", "at"] []
  g_law_spread : mg "_law_spread" = some (.ref f_law_spread)
  f_law_take : Addr
  d_law_take : FuncData
  F_law_take : Fun K "_law_take" "_law_take" s_law_take f_law_take d_law_take
  b_law_take : Binds K d_law_take ["pen", "amount"] []
  g_law_take : mg "_law_take" = some (.ref f_law_take)
  f_law_same : Addr
  d_law_same : FuncData
  F_law_same : Fun K "_law_same" "_law_same" s_law_same f_law_same d_law_same
  b_law_same : Binds K d_law_same ["found", "due"] []
  g_law_same : mg "_law_same" = some (.ref f_law_same)
  f_law_one_of : Addr
  d_law_one_of : FuncData
  F_law_one_of : Fun K "_law_one_of" "_law_one_of" s_law_one_of f_law_one_of d_law_one_of
  b_law_one_of : Binds K d_law_one_of ["pen", "some"] []
  g_law_one_of : mg "_law_one_of" = some (.ref f_law_one_of)
  f_law_signs : Addr
  d_law_signs : FuncData
  F_law_signs : Fun K "_law_signs" "_law_signs" s_law_signs f_law_signs d_law_signs
  b_law_signs : Binds K d_law_signs [] []
  g_law_signs : mg "_law_signs" = some (.ref f_law_signs)
  f_law_draw_text : Addr
  d_law_draw_text : FuncData
  F_law_draw_text : Fun K "_law_draw_text" "_law_draw_text" s_law_draw_text f_law_draw_text d_law_draw_text
  b_law_draw_text : Binds K d_law_draw_text ["pen", "least", "most"] []
  g_law_draw_text : mg "_law_draw_text" = some (.ref f_law_draw_text)
  f_law_draw_near_field : Addr
  d_law_draw_near_field : FuncData
  F_law_draw_near_field : Fun K "_law_draw_near_field" "_law_draw_near_field" s_law_draw_near_field f_law_draw_near_field d_law_draw_near_field
  b_law_draw_near_field : Binds K d_law_draw_near_field ["pen"] []
  g_law_draw_near_field : mg "_law_draw_near_field" = some (.ref f_law_draw_near_field)
  f_law_draw_setting : Addr
  d_law_draw_setting : FuncData
  F_law_draw_setting : Fun K "_law_draw_setting" "_law_draw_setting" s_law_draw_setting f_law_draw_setting d_law_draw_setting
  b_law_draw_setting : Binds K d_law_draw_setting ["pen"] []
  g_law_draw_setting : mg "_law_draw_setting" = some (.ref f_law_draw_setting)
  f_law_size : Addr
  d_law_size : FuncData
  F_law_size : Fun K "_law_size" "_law_size" s_law_size f_law_size d_law_size
  b_law_size : Binds K d_law_size ["field"] []
  g_law_size : mg "_law_size" = some (.ref f_law_size)
  f_law_without_old : Addr
  d_law_without_old : FuncData
  F_law_without_old : Fun K "_law_without_old" "_law_without_old" s_law_without_old f_law_without_old d_law_without_old
  b_law_without_old : Binds K d_law_without_old ["entries", "bound", "more"] []
  g_law_without_old : mg "_law_without_old" = some (.ref f_law_without_old)
  f_law_carried : Addr
  d_law_carried : FuncData
  F_law_carried : Fun K "_law_carried" "_law_carried" s_law_carried f_law_carried d_law_carried
  b_law_carried : Binds K d_law_carried ["setting", "state", "one"] []
  g_law_carried : mg "_law_carried" = some (.ref f_law_carried)
  f_law_draw_step : Addr
  d_law_draw_step : FuncData
  F_law_draw_step : Fun K "_law_draw_step" "_law_draw_step" s_law_draw_step f_law_draw_step d_law_draw_step
  b_law_draw_step : Binds K d_law_draw_step ["pen", "setting", "state"] []
  g_law_draw_step : mg "_law_draw_step" = some (.ref f_law_draw_step)
  f_law_draw_work : Addr
  d_law_draw_work : FuncData
  F_law_draw_work : Fun K "_law_draw_work" "_law_draw_work" s_law_draw_work f_law_draw_work d_law_draw_work
  b_law_draw_work : Binds K d_law_draw_work ["pen", "setting", "most"] []
  g_law_draw_work : mg "_law_draw_work" = some (.ref f_law_draw_work)
  f_law_wrong_setting : Addr
  d_law_wrong_setting : FuncData
  F_law_wrong_setting : Fun K "_law_wrong_setting" "_law_wrong_setting" s_law_wrong_setting f_law_wrong_setting d_law_wrong_setting
  b_law_wrong_setting : Binds K d_law_wrong_setting ["pen", "setting"] []
  g_law_wrong_setting : mg "_law_wrong_setting" = some (.ref f_law_wrong_setting)
  f_law_told : Addr
  d_law_told : FuncData
  F_law_told : Fun K "_law_told" "_law_told" s_law_told f_law_told d_law_told
  b_law_told : Binds K d_law_told ["setting", "work"] []
  g_law_told : mg "_law_told" = some (.ref f_law_told)
  f_law_due : Addr
  d_law_due : FuncData
  F_law_due : Fun K "_law_due" "_law_due" s_law_due f_law_due d_law_due
  b_law_due : Binds K d_law_due ["setting", "work"] []
  g_law_due : mg "_law_due" = some (.ref f_law_due)
  f_law : Addr
  d_law : FuncData
  F_law : Fun K "law" "law" s_law f_law d_law
  b_law : Binds K d_law ["script"] []
  g_law : mg "law" = some (.ref f_law)
  C_FieldError : Addr
  m_FieldError : Value
  B_FieldError : BaseC K mg "FieldError" C_FieldError m_FieldError
  R_FieldError : RootC K C_FieldError
  C_NoSetting : Addr
  P_NoSetting : PlainC K mg "NoSetting" C_NoSetting [.type "ValueError", .type "Exception", .type "BaseException", .type "object"]
  S_NoSetting : HeirC K C_NoSetting C_FieldError
  C_NoValue : Addr
  P_NoValue : PlainC K mg "NoValue" C_NoValue [.type "ValueError", .type "Exception", .type "BaseException", .type "object"]
  S_NoValue : HeirC K C_NoValue C_FieldError
  C_BadTable : Addr
  E_BadTable : ErrC K mg "BadTable" "number" C_BadTable f_BadTable_init
  S_BadTable : HeirC K C_BadTable C_FieldError
  C_Table : Addr
  cl_Table : Cls K C_Table
  g_Table : mg "Table" = some (.ref C_Table)
  M_Table : Mk K C_Table f_Table_init
  nA_Table_setting : NoAttr K C_Table "setting"
  nA_Table_bound : NoAttr K C_Table "bound"
  nA_Table_made : NoAttr K C_Table "made"
  nA_Table_kept : NoAttr K C_Table "kept"
  m_Table_copied : Meth K C_Table "copied" f_Table_copied
  m_Table_carry_out : Meth K C_Table "carry_out" f_Table_carry_out
  m_Table_set_bound : Meth K C_Table "set_bound" f_Table_set_bound
  m_Table_inserted : Meth K C_Table "inserted" f_Table_inserted
  m_Table_has_room : Meth K C_Table "has_room" f_Table_has_room
  m_Table_leaving : Meth K C_Table "leaving" f_Table_leaving
  m_Table_drop : Meth K C_Table "drop" f_Table_drop
  U_NoSetting_NoSetting : PySem.W.subIn K (.ref C_NoSetting) (.ref C_NoSetting) = some true
  U_NoSetting_NoValue : PySem.W.subIn K (.ref C_NoSetting) (.ref C_NoValue) = some false
  U_NoSetting_BadTable : PySem.W.subIn K (.ref C_NoSetting) (.ref C_BadTable) = some false
  U_NoValue_NoSetting : PySem.W.subIn K (.ref C_NoValue) (.ref C_NoSetting) = some false
  U_NoValue_NoValue : PySem.W.subIn K (.ref C_NoValue) (.ref C_NoValue) = some true
  U_NoValue_BadTable : PySem.W.subIn K (.ref C_NoValue) (.ref C_BadTable) = some false
  U_BadTable_NoSetting : PySem.W.subIn K (.ref C_BadTable) (.ref C_NoSetting) = some false
  U_BadTable_NoValue : PySem.W.subIn K (.ref C_BadTable) (.ref C_NoValue) = some false
  U_BadTable_BadTable : PySem.W.subIn K (.ref C_BadTable) (.ref C_BadTable) = some true
  X_BadTable : IsC K C_BadTable
  X_NoSetting : IsC K C_NoSetting
  X_NoValue : IsC K C_NoValue
  t_NUMBER_MOST : Tok
  g_NUMBER_MOST : mg "NUMBER_MOST" = some (.int 9999 t_NUMBER_MOST)
  t_NAME_MOST : Tok
  g_NAME_MOST : mg "NAME_MOST" = some (.int 20 t_NAME_MOST)
  t_VALUE_MOST : Tok
  g_VALUE_MOST : mg "VALUE_MOST" = some (.int 40 t_VALUE_MOST)
  t_FIXED_MOST : Tok
  g_FIXED_MOST : mg "FIXED_MOST" = some (.int 12 t_FIXED_MOST)
  t_ROOM_MOST : Tok
  g_ROOM_MOST : mg "ROOM_MOST" = some (.int 120 t_ROOM_MOST)
  t_WAITING_MOST : Tok
  g_WAITING_MOST : mg "WAITING_MOST" = some (.int 4 t_WAITING_MOST)
  a_CHARACTERS : Addr
  g_CHARACTERS : mg "CHARACTERS" = some (.ref a_CHARACTERS)
  CHARACTERS_d : IDict K a_CHARACTERS chars
  t_SIZE_MORE : Tok
  g_SIZE_MORE : mg "SIZE_MORE" = some (.int 4 t_SIZE_MORE)
  z_all : mg "all" = none
  z_bool : mg "bool" = none
  z_dict : mg "dict" = none
  z_enumerate : mg "enumerate" = none
  z_int : mg "int" = none
  z_isinstance : mg "isinstance" = none
  z_len : mg "len" = none
  z_list : mg "list" = none
  z_max : mg "max" = none
  z_min : mg "min" = none
  z_ord : mg "ord" = none
  z_range : mg "range" = none
  z_repr : mg "repr" = none
  z_sorted : mg "sorted" = none
  z_str : mg "str" = none
  z_sum : mg "sum" = none
  z_tuple : mg "tuple" = none
  z_zip : mg "zip" = none
theorem sc_wall : FnScope ["k"] ["k"] (defScope s_wall) := ⟨rfl, rfl, rfl, by decide +kernel, rfl, by decide +kernel, by decide +kernel⟩
theorem sc_BadTable_init : FnScope ["self", "number"] ["self", "number"] (defScope s_BadTable_init) := ⟨rfl, rfl, rfl, by decide +kernel, rfl, by decide +kernel, by decide +kernel⟩
theorem sc_is_between : FnScope ["thing", "least", "most"] ["thing", "least", "most"] (defScope s_is_between) := ⟨rfl, rfl, rfl, by decide +kernel, rfl, by decide +kernel, by decide +kernel⟩
theorem sc_is_number : FnScope ["thing"] ["thing"] (defScope s_is_number) := ⟨rfl, rfl, rfl, by decide +kernel, rfl, by decide +kernel, by decide +kernel⟩
theorem sc_is_text : FnScope ["thing", "least", "most", "character"] ["thing", "least", "most"] (defScope s_is_text) := ⟨rfl, rfl, rfl, by decide +kernel, rfl, by decide +kernel, by decide +kernel⟩
theorem sc_is_name : FnScope ["thing"] ["thing"] (defScope s_is_name) := ⟨rfl, rfl, rfl, by decide +kernel, rfl, by decide +kernel, by decide +kernel⟩
theorem sc_is_value : FnScope ["thing"] ["thing"] (defScope s_is_value) := ⟨rfl, rfl, rfl, by decide +kernel, rfl, by decide +kernel, by decide +kernel⟩
theorem sc_is_field : FnScope ["thing"] ["thing"] (defScope s_is_field) := ⟨rfl, rfl, rfl, by decide +kernel, rfl, by decide +kernel, by decide +kernel⟩
theorem sc_is_tuple_of_fields : FnScope ["thing", "most", "field"] ["thing", "most"] (defScope s_is_tuple_of_fields) := ⟨rfl, rfl, rfl, by decide +kernel, rfl, by decide +kernel, by decide +kernel⟩
theorem sc_is_setting : FnScope ["thing", "fixed", "room", "waiting"] ["thing"] (defScope s_is_setting) := ⟨rfl, rfl, rfl, by decide +kernel, rfl, by decide +kernel, by decide +kernel⟩
theorem sc_check_setting : FnScope ["setting"] ["setting"] (defScope s_check_setting) := ⟨rfl, rfl, rfl, by decide +kernel, rfl, by decide +kernel, by decide +kernel⟩
theorem sc_is_instruction : FnScope ["thing", "kind", "source", "value"] ["thing"] (defScope s_is_instruction) := ⟨rfl, rfl, rfl, by decide +kernel, rfl, by decide +kernel, by decide +kernel⟩
theorem sc_run_table : FnScope ["setting", "instructions", "thing", "table", "number", "instruction"] ["setting", "instructions"] (defScope s_run_table) := ⟨rfl, rfl, rfl, by decide +kernel, rfl, by decide +kernel, by decide +kernel⟩
theorem sc_said_field : FnScope ["fixed", "entries", "line", "field"] ["fixed", "entries", "line"] (defScope s_said_field) := ⟨rfl, rfl, rfl, by decide +kernel, rfl, by decide +kernel, by decide +kernel⟩
theorem sc_referred : FnScope ["fixed", "entries", "kind", "number"] ["fixed", "entries", "kind", "number"] (defScope s_referred) := ⟨rfl, rfl, rfl, by decide +kernel, rfl, by decide +kernel, by decide +kernel⟩
theorem sc_entry_size : FnScope ["field"] ["field"] (defScope s_entry_size) := ⟨rfl, rfl, rfl, by decide +kernel, rfl, by decide +kernel, by decide +kernel⟩
theorem sc_Table_init : FnScope ["self", "setting"] ["self", "setting"] (defScope s_Table_init) := ⟨rfl, rfl, rfl, by decide +kernel, rfl, by decide +kernel, by decide +kernel⟩
theorem sc_Table_copied : FnScope ["self"] ["self"] (defScope s_Table_copied) := ⟨rfl, rfl, rfl, by decide +kernel, rfl, by decide +kernel, by decide +kernel⟩
theorem sc_Table_carry_out : FnScope ["self", "instruction", "field"] ["self", "instruction"] (defScope s_Table_carry_out) := ⟨rfl, rfl, rfl, by decide +kernel, rfl, by decide +kernel, by decide +kernel⟩
theorem sc_Table_set_bound : FnScope ["self", "bound"] ["self", "bound"] (defScope s_Table_set_bound) := ⟨rfl, rfl, rfl, by decide +kernel, rfl, by decide +kernel, by decide +kernel⟩
theorem sc_Table_inserted : FnScope ["self", "instruction", "kind", "number"] ["self", "instruction"] (defScope s_Table_inserted) := ⟨rfl, rfl, rfl, by decide +kernel, rfl, by decide +kernel, by decide +kernel⟩
theorem sc_Table_has_room : FnScope ["self", "field"] ["self", "field"] (defScope s_Table_has_room) := ⟨rfl, rfl, rfl, by decide +kernel, rfl, by decide +kernel, by decide +kernel⟩
theorem sc_Table_leaving : FnScope ["self", "bound", "more", "total", "field", "numbers", "number"] ["self", "bound", "more"] (defScope s_Table_leaving) := ⟨rfl, rfl, rfl, by decide +kernel, rfl, by decide +kernel, by decide +kernel⟩
theorem sc_Table_drop : FnScope ["self", "numbers", "number"] ["self", "numbers"] (defScope s_Table_drop) := ⟨rfl, rfl, rfl, by decide +kernel, rfl, by decide +kernel, by decide +kernel⟩
theorem sc_law_open : FnScope ["script", "cells", "k", "cell"] ["script"] (defScope s_law_open) := ⟨rfl, rfl, rfl, by decide +kernel, rfl, by decide +kernel, by decide +kernel⟩
theorem sc_law_spread : FnScope ["cell", "at", "primes", "one", "two", "three"] ["cell", "at"] (defScope s_law_spread) := ⟨rfl, rfl, rfl, by decide +kernel, rfl, by decide +kernel, by decide +kernel⟩
theorem sc_law_take : FnScope ["pen", "amount", "at", "cell", "found"] ["pen", "amount"] (defScope s_law_take) := ⟨rfl, rfl, rfl, by decide +kernel, rfl, by decide +kernel, by decide +kernel⟩
theorem sc_law_same : FnScope ["found", "due", "one", "other"] ["found", "due"] (defScope s_law_same) := ⟨rfl, rfl, rfl, by decide +kernel, rfl, by decide +kernel, by decide +kernel⟩
theorem sc_law_one_of : FnScope ["pen", "some"] ["pen", "some"] (defScope s_law_one_of) := ⟨rfl, rfl, rfl, by decide +kernel, rfl, by decide +kernel, by decide +kernel⟩
theorem sc_law_signs : FnScope [] [] (defScope s_law_signs) := ⟨rfl, rfl, rfl, by decide +kernel, rfl, by decide +kernel, by decide +kernel⟩
theorem sc_law_draw_text : FnScope ["pen", "least", "most", "size", "k"] ["pen", "least", "most"] (defScope s_law_draw_text) := ⟨rfl, rfl, rfl, by decide +kernel, rfl, by decide +kernel, by decide +kernel⟩
theorem sc_law_draw_near_field : FnScope ["pen", "names", "values"] ["pen"] (defScope s_law_draw_near_field) := ⟨rfl, rfl, rfl, by decide +kernel, rfl, by decide +kernel, by decide +kernel⟩
theorem sc_law_draw_setting : FnScope ["pen", "fixed", "again"] ["pen"] (defScope s_law_draw_setting) := ⟨rfl, rfl, rfl, by decide +kernel, rfl, by decide +kernel, by decide +kernel⟩
theorem sc_law_size : FnScope ["field"] ["field"] (defScope s_law_size) := ⟨rfl, rfl, rfl, by decide +kernel, rfl, by decide +kernel, by decide +kernel⟩
theorem sc_law_without_old : FnScope ["entries", "bound", "more", "found", "number", "one"] ["entries", "bound", "more"] (defScope s_law_without_old) := ⟨rfl, rfl, rfl, by decide +kernel, rfl, by decide +kernel, by decide +kernel⟩
theorem sc_law_carried : FnScope ["setting", "state", "one", "fixed", "room", "entries", "many", "bound", "field", "older", "found"] ["setting", "state", "one"] (defScope s_law_carried) := ⟨rfl, rfl, rfl, by decide +kernel, rfl, by decide +kernel, by decide +kernel⟩
theorem sc_law_draw_step : FnScope ["pen", "setting", "state", "entries", "many", "bound", "field", "way", "room", "number"] ["pen", "setting", "state"] (defScope s_law_draw_step) := ⟨rfl, rfl, rfl, by decide +kernel, rfl, by decide +kernel, by decide +kernel⟩
theorem sc_law_draw_work : FnScope ["pen", "setting", "most", "found", "state", "again", "one", "later"] ["pen", "setting", "most"] (defScope s_law_draw_work) := ⟨rfl, rfl, rfl, by decide +kernel, rfl, by decide +kernel, by decide +kernel⟩
theorem sc_law_wrong_setting : FnScope ["pen", "setting", "fixed", "room", "waiting", "some", "spot", "odd", "bent"] ["pen", "setting"] (defScope s_law_wrong_setting) := ⟨rfl, rfl, rfl, by decide +kernel, rfl, by decide +kernel, by decide +kernel⟩
theorem sc_law_told : FnScope ["setting", "work", "caught", "e", "some"] ["setting", "work"] (defScope s_law_told) := ⟨rfl, rfl, rfl, by decide +kernel, rfl, by decide +kernel, by decide +kernel⟩
theorem sc_law_due : FnScope ["setting", "work", "state", "number", "one"] ["setting", "work"] (defScope s_law_due) := ⟨rfl, rfl, rfl, by decide +kernel, rfl, by decide +kernel, by decide +kernel⟩
theorem sc_law : FnScope ["script", "pen", "turn", "setting", "work", "state", "again", "one", "odd", "spot", "bent", "seen", "wrong"] ["script"] (defScope s_law) := ⟨rfl, rfl, rfl, by decide +kernel, rfl, by decide +kernel, by decide +kernel⟩
section
variable {P : Program} {w : World} {K : PySem.W.Frag} {mg : Str → Option Value} {base : Heap}
theorem ok_is_between (T : Txt K mg) : FnOk P w K mg base CX0 1 T.f_is_between T.d_is_between ["thing", "least", "most"] (sp_is_between K) := by
  refine T.F_is_between.ok sc_is_between (fun vs H Q E h => ?_) (fun cdv A outer s H vs Q E hr h => ?_)
  · obtain ⟨v, t, a, b, rfl, _⟩ := h
    rfl
  · obtain ⟨v, t, a, b, rfl, k, q⟩ := h
    refine ⟨_, (pss_one (ps_ret (pe_and (pe_callB call_isi rfl T.z_isinstance boot_isinstance (pa_cons (pv 0) (pa_cons (pe_bltn (v := .ty "int") rfl T.z_int boot_int rfl) pa_nil))) (pe_and (pe_not (pe_callB call_isi rfl T.z_isinstance boot_isinstance (pa_cons (pv 0) (pa_cons (pe_bltn (v := .ty "bool") rfl T.z_bool boot_bool rfl) pa_nil)))) (pe_one (pe_chain op_le op_le (pv 1) (pv 0) (pv 2))))))), ?_⟩
    refine ⟨_, rfl, _, _, _, _, _, rfl, .ty _, k.ty, k.kit, _, rfl, ifb (fun e => ?_) (fun e => ?_)⟩
    · refine ⟨_, rfl, _, _, _, _, _, rfl, .ty _, k.ty, k.kit, _, rfl, _, rfl, ifb (fun e2 => ?_) (fun e2 => ?_)⟩
      · have ei : t = "int" := by
          cases k <;> first | rfl | (exfalso; revert e e2; decide)
        cases k <;> first | (exact absurd ei (by decide)) | skip
        rename_i i
        refine ⟨_, rfl, _, rfl, _, _, rfl, rfl, _, rfl, ifb (fun e3 => ?_) (fun e3 => ?_)⟩
        · exact ⟨_, rfl, _, _, rfl, rfl, Q_bl q (by show (decide _ && decide _) = _; rw [e3]; rfl)⟩
        · exact Q_bl q (by show (decide _ && decide _) = _; rw [e3]; rfl)
      · refine Q_bl q ?_
        cases k <;> first | rfl | (exfalso; revert e e2; decide)
    · refine Q_bl q ?_
      cases k <;> first | rfl | (exfalso; revert e; decide)

theorem ok_is_number (T : Txt K mg) : FnOk P w K mg base CX0 2 T.f_is_number T.d_is_number ["thing"] (sp_is_number K) := by
  refine T.F_is_number.ok sc_is_number (fun vs H Q E h => ?_) (fun cdv A outer s H vs Q E hr h => ?_)
  · obtain ⟨v, t, rfl, _⟩ := h
    rfl
  · obtain ⟨v, t, rfl, k, q⟩ := h
    refine ⟨_, (pss_one (ps_ret (pe_call (ok_is_between T) (hr.mono (by decide)) rfl T.g_is_between T.F_is_between.kp T.b_is_between .nil pass0 (pa_cons (pv 0) (pa_cons pe_int (pa_cons (pe_glob (v := .int 9999) rfl T.g_NUMBER_MOST ⟨_, rfl⟩) pa_nil)))))), ?_⟩
    exact ⟨_, rfl, v, t, 0, 9999, rfl, k, q⟩
theorem ok_is_text (T : Txt K mg) : FnOk P w K mg base CX0 1 T.f_is_text T.d_is_text ["thing", "least", "most"] (sp_is_text K) := by
  refine T.F_is_text.ok sc_is_text (fun vs H Q E h => ?_) (fun cdv A outer s H vs Q E hr h => ?_)
  · obtain ⟨v, t, a, b, rfl, _⟩ := h
    rfl
  · obtain ⟨v, t, a, b, rfl, k, hz, q⟩ := h
    refine ⟨_, (pss_cons (ps_if (PW.pt (pw_or (pt_not (pt_val (pe_callB call_isi rfl T.z_isinstance boot_isinstance (pa_cons (pv 0) (pa_cons (pe_bltn (v := .ty "str") rfl T.z_str boot_str rfl) pa_nil))))) (pw_or1 (pt_not (pt_chain op_le op_le (pv 1) (pe_callB call_len rfl T.z_len boot_len (pa_cons (pv 0) pa_nil)) (pv 2)))))) (pss_one (ps_ret pe_bl)) pss_nil)
      (pss_one (ps_ret (pe_callB (cr_all rfl) rfl T.z_all boot_all (pa_cons (pe_lc (own := [("character", 3)]) (g := (gName 3)) (tt := tYes)  rfl sc_is_text.nd (pi_str (pv 0)) (blkOk_by (own := [("character", 3)]) (N := ["thing", "least", "most", "character"]) (sc := defScope s_is_text) (by decide +kernel)) (fun _ _ _ _ _ => (pg_name (i := 3) sc_is_text.nd rfl (Or.inl rfl))) (fun _ _ _ _ _ => pts_nil) (fun _ _ _ _ _ => (pe_cmpR (op_in_kdI T.CHARACTERS_d) (pe_callB call_ord rfl T.z_ord boot_ord (pa_cons (pv 3) pa_nil)) (pe_glob (v := .ref T.a_CHARACTERS) rfl T.g_CHARACTERS rfl) rfl))) pa_nil))))), ?_⟩
    refine ⟨_, rfl, _, _, _, _, _, rfl, .ty _, k.ty, k.kit, _, rfl, ?_⟩
    refine ifb (fun e => ?_) (fun e => ?_)
    · refine iteT ?_
      refine Q_bl (q H (Same.refl _)) ?_
      cases k <;> first | rfl | (exfalso; revert e; decide)
    · cases k <;> first | (exfalso; revert e; decide) | skip
      rename_i x
      have hx := hz x rfl
      refine ⟨_, rfl, _, rfl, _, _, rfl, ⟨len100 hx, rfl⟩, _, _, rfl, rfl, _, rfl, ifb (fun e2 => ?_) (fun e2 => ?_)⟩
      · refine ⟨_, rfl, _, _, rfl, rfl, _, rfl, ?_⟩
        refine ifb (fun e3 => ?_) (fun e3 => ?_)
        · refine Q_bl (q H (Same.refl _)) ?_
          show (_ && _ && _) = false
          have e3' : decide ((x.length : Int) ≤ b) = false := by simpa using e3
          rw [e3', Bool.and_false, Bool.false_and]
        · have e3' : decide ((x.length : Int) ≤ b) = true := by simpa using e3
          refine ⟨_, rfl, _, rfl, fun D hD => ?_⟩
          refine lc_map walk_str (fun i => V.bl (isChar (x.cps.toList.getD i 0))) (by show x.length ≤ 10000000; omega) hD (fun _ _ => True.intro) ?_ ?_
          · rintro i y H' H'' Q' Z hi s1 ⟨rfl, c, hc, rfl⟩ q'
            refine ⟨rfl, yesI ?_⟩
            refine ⟨_, rfl, _, rfl, rfl, _, rfl, rfl, ?_⟩
            have e4 : x.cps.toList.getD i 0 = c := getD_of 0 (cps_at hc)
            have e5 : (⟨#[c]⟩ : Str).cps.getD 0 0 = c := rfl
            have := q' H'' (Same.refl _)
            rw [e4] at this
            rw [e5, valI_chars]
            cases hcc : isChar c
            · rw [hcc] at this; exact this
            · rw [hcc] at this; exact this
          · intro H' s1 hD'
            refine ⟨_, x.cps.toList.map isChar, rfl, .inl (.inl ?_), ?_⟩
            · rw [hD']
              have : (List.range x.cps.size).map (fun i => V.bl (isChar (x.cps.toList.getD i 0))) = (x.cps.toList.map isChar).map V.bl := by
                rw [List.map_map]
                exact range_map x.cps.toList (fun c => V.bl (isChar c)) 0
              rw [this]
            · refine Q_bl (q H' s1) ?_
              show (_ && _ && _) = _
              rw [e2, e3']
              simp [List.all_map]
      · refine ⟨_, rfl, ?_⟩
        refine iteT ?_
        refine Q_bl (q H (Same.refl _)) ?_
        show (_ && _ && _) = false
        rw [e2, Bool.false_and, Bool.false_and]
theorem ok_is_value (T : Txt K mg) : FnOk P w K mg base CX0 2 T.f_is_value T.d_is_value ["thing"] (sp_is_value K) := by
  refine T.F_is_value.ok sc_is_value (fun vs H Q E h => ?_) (fun cdv A outer s H vs Q E hr h => ?_)
  · obtain ⟨v, t, rfl, _⟩ := h
    rfl
  · obtain ⟨v, t, rfl, k, hz, q⟩ := h
    refine ⟨_, (pss_one (ps_ret (pe_call (ok_is_text T) (hr.mono (by decide)) rfl T.g_is_text T.F_is_text.kp T.b_is_text .nil pass0 (pa_cons (pv 0) (pa_cons pe_int (pa_cons (pe_glob (v := .int 40) rfl T.g_VALUE_MOST ⟨_, rfl⟩) pa_nil)))))), ?_⟩
    exact ⟨_, rfl, v, t, 0, 40, rfl, k, hz, q⟩
theorem ok_is_name (T : Txt K mg) : FnOk P w K mg base CX0 2 T.f_is_name T.d_is_name ["thing"] (sp_is_name K) := by
  refine T.F_is_name.ok sc_is_name (fun vs H Q E h => ?_) (fun cdv A outer s H vs Q E hr h => ?_)
  · obtain ⟨v, t, rfl, _⟩ := h
    rfl
  · obtain ⟨v, t, rfl, k, hz, q⟩ := h
    refine ⟨_, (pss_one (ps_ret (pe_call (ok_is_text T) (hr.mono (by decide)) rfl T.g_is_text T.F_is_text.kp T.b_is_text .nil pass0 (pa_cons (pv 0) (pa_cons pe_int (pa_cons (pe_glob (v := .int 20) rfl T.g_NAME_MOST ⟨_, rfl⟩) pa_nil)))))), ?_⟩
    exact ⟨_, rfl, v, t, 1, 20, rfl, k, hz, q⟩
theorem ok_is_field (T : Txt K mg) : FnOk P w K mg base CX0 3 T.f_is_field T.d_is_field ["thing"] (sp_chk K dField) := by
  refine T.F_is_field.ok sc_is_field (fun vs H Q E h => ?_) (fun cdv A outer s H vs Q E hr h => ?_)
  · obtain ⟨v, d, rfl, _⟩ := h
    rfl
  · obtain ⟨v, d, rfl, hv, hw, q⟩ := h
    refine ⟨_, (pss_one (ps_ret (pe_and (pe_callB call_isi rfl T.z_isinstance boot_isinstance (pa_cons (pv 0) (pa_cons (pe_bltn (v := .ty "tuple") rfl T.z_tuple boot_tuple rfl) pa_nil))) (pe_and (pe_cmpR op_eq (pe_callB call_len rfl T.z_len boot_len (pa_cons (pv 0) pa_nil)) pe_int (nomark _)) (pe_and (pe_call (ok_is_name T) (hr.mono (by decide)) rfl T.g_is_name T.F_is_name.kp T.b_is_name .nil pass0 (pa_cons (pe_ix ix_tup (pv 0) pe_int (fun _ _ => rfl)) pa_nil)) (pe_one (pe_call (ok_is_value T) (hr.mono (by decide)) rfl T.g_is_value T.F_is_value.kp T.b_is_value .nil pass0 (pa_cons (pe_ix ix_tup (pv 0) pe_int (fun _ _ => rfl)) pa_nil)))))))), ?_⟩
    have k := hv.kind
    refine ⟨_, rfl, _, _, _, _, _, rfl, .ty _, k.ty, k.kit, _, rfl, ifb (fun e => ?_) (fun e => ?_)⟩
    · obtain ⟨a, xs, ds, rfl, rfl, hs, ha⟩ := hv.asT e
      refine ⟨_, rfl, _, _, rfl, .inr ⟨_, hs, rfl⟩, rfl, _, rfl, ifb (fun e2 => ?_) (fun e2 => ?_)⟩
      · obtain ⟨x0, x1, d0, d1, rfl, rfl, h0, h1⟩ := len2 ha (nAt (m := 2) e2)
        have w0 := w_tup (d := d0) (by simp) hw
        have w1 := w_tup (d := d1) (by simp) hw
        refine ⟨_, rfl, _, _, _, _, rfl, rfl, hs, rfl, x0, _, rfl, h0.kind, h0.strLe w0, fun H1 s1 => ⟨_, rfl, ifb (fun e3 => ?_) (fun e3 => ?_)⟩⟩
        · refine ⟨_, rfl, _, _, _, _, rfl, rfl, s1.tup hs, rfl, x1, _, rfl, (h1.keep s1).kind, h1.strLe w1, fun H2 s2 => ?_⟩
          refine Q_bl (q H2 (s1.trans s2)) ?_
          rw [h0.txt] at e3
          rw [h1.txt]
          show (dTxt d0 1 20 && dTxt d1 0 40) = _
          rw [e3]; rfl
        · refine Q_bl (q H1 s1) ?_
          rw [h0.txt] at e3
          show (dTxt d0 1 20 && dTxt d1 0 40) = _
          rw [e3]; rfl
      · exact Q_bl (q H (Same.refl _)) (dField_ne (by rw [← ha.len]; exact nNe (m := 2) e2))
    · exact Q_bl (q H (Same.refl _)) (dField_no e)
theorem ok_is_tuple_of_fields (T : Txt K mg) : FnOk P w K mg base CX0 4 T.f_is_tuple_of_fields T.d_is_tuple_of_fields ["thing", "most"] (sp_chkM K dFields) := by
  refine T.F_is_tuple_of_fields.ok sc_is_tuple_of_fields (fun vs H Q E h => ?_) (fun cdv A outer s H vs Q E hr h => ?_)
  · obtain ⟨v, d, m, rfl, _⟩ := h
    rfl
  · obtain ⟨v, d, m, rfl, hv, hw, q⟩ := h
    refine ⟨_, (pss_cons (ps_if (PW.pt (pw_or (pt_not (pt_val (pe_callB call_isi rfl T.z_isinstance boot_isinstance (pa_cons (pv 0) (pa_cons (pe_bltn (v := .ty "tuple") rfl T.z_tuple boot_tuple rfl) pa_nil))))) (pw_or1 (pt_cmpR op_gt (pe_callB call_len rfl T.z_len boot_len (pa_cons (pv 0) pa_nil)) (pv 1) (nomark _))))) (pss_one (ps_ret pe_bl)) pss_nil)
      (pss_one (ps_ret (pe_callB (cr_all rfl) rfl T.z_all boot_all (pa_cons (pe_lc (own := [("field", 2)]) (g := (gName 2)) (tt := tYes)  rfl sc_is_tuple_of_fields.nd (pi_tup (pv 0)) (blkOk_by (own := [("field", 2)]) (N := ["thing", "most", "field"]) (sc := defScope s_is_tuple_of_fields) (by decide +kernel)) (fun _ _ _ _ _ => (pg_name (i := 2) sc_is_tuple_of_fields.nd rfl (Or.inl rfl))) (fun _ _ _ _ _ => pts_nil) (fun _ _ _ _ _ => (pe_call (ok_is_field T) (hr.mono (by decide)) rfl T.g_is_field T.F_is_field.kp T.b_is_field .nil pass0 (pa_cons (pv 2) pa_nil)))) pa_nil))))), ?_⟩
    have k := hv.kind
    refine ⟨_, rfl, _, _, _, _, _, rfl, .ty _, k.ty, k.kit, _, rfl, ?_⟩
    refine ifb (fun e => ?_) (fun e => ?_)
    · exact iteT (Q_bl (q H (Same.refl _)) (dFields_no (nb e)))
    · obtain ⟨a, xs, ds, rfl, rfl, hs, ha⟩ := hv.asT (nb' e)
      have hlen := ha.len
      refine ⟨_, rfl, _, _, rfl, .inr ⟨_, hs, rfl⟩, _, rfl, _, _, rfl, rfl, _, rfl, ifb (fun e2 => ?_) (fun e2 => ?_)⟩
      · refine Q_bl (q H (Same.refl _)) ?_
        have e2' : (m : Int) < (xs.length : Int) := by simpa using e2
        show (decide (ds.length ≤ m) && _) = false
        rw [decide_eq_false (by omega), Bool.false_and]
      · have e2' : ¬ ((m : Int) < (xs.length : Int)) := by simpa using e2
        refine ⟨_, rfl, a, rfl, ⟨xs, hs⟩, fun D hD => ?_⟩
        refine lc_map (walk_tup (xs := xs)) (fun i => V.bl (dField (ds.getD i .none))) (by have := w_tupLen hw; omega) hD (fun _ s1 => s1.tup hs) ?_ ?_
        · rintro i y H' H'' Q' Z hi s1 ⟨rfl, hy⟩ q'
          refine ⟨rfl, yesI ?_⟩
          obtain ⟨d, hd, hdv⟩ := ha.at hy
          refine ⟨_, rfl, y, d, rfl, hdv.keep s1, w_tup (List.mem_of_getElem? hd) hw, fun H4 s4 => ?_⟩
          have := q' H4 s4
          rw [getD_of .none hd] at this
          exact this
        · intro H' s1 hD'
          refine ⟨_, ds.map dField, rfl, .inl (.inl (by rw [hD', tests_of dField ha])), ?_⟩
          refine Q_bl (q H' s1) ?_
          show (decide (ds.length ≤ m) && ds.all dField) = _
          rw [decide_eq_true (by omega), Bool.true_and, all_id]
theorem ok_is_setting (T : Txt K mg) : FnOk P w K mg base CX0 5 T.f_is_setting T.d_is_setting ["thing"] (sp_chk K dSetting) := by
  refine T.F_is_setting.ok sc_is_setting (fun vs H Q E h => ?_) (fun cdv A outer s H vs Q E hr h => ?_)
  · obtain ⟨v, d, rfl, _⟩ := h
    rfl
  · obtain ⟨v, d, rfl, hv, hw, q⟩ := h
    refine ⟨_, (pss_cons (ps_if (PW.pt (pw_or (pt_not (pt_val (pe_callB call_isi rfl T.z_isinstance boot_isinstance (pa_cons (pv 0) (pa_cons (pe_bltn (v := .ty "tuple") rfl T.z_tuple boot_tuple rfl) pa_nil))))) (pw_or1 (pt_cmpR op_ne (pe_callB call_len rfl T.z_len boot_len (pa_cons (pv 0) pa_nil)) pe_int (nomark _))))) (pss_one (ps_ret pe_bl)) pss_nil)
      (pss_cons (ps_asg (pv 0) (pg_tup rfl (pgs_cons (pg_name (i := 1) sc_is_setting.nd rfl (Or.inl rfl)) (pgs_cons (pg_name (i := 2) sc_is_setting.nd rfl (Or.inl rfl)) (pgs_cons (pg_name (i := 3) sc_is_setting.nd rfl (Or.inl rfl)) pgs_nil)))))
      (pss_cons (ps_if (pt_not (pt_val (pe_call (ok_is_tuple_of_fields T) (hr.mono (by decide)) rfl T.g_is_tuple_of_fields T.F_is_tuple_of_fields.kp T.b_is_tuple_of_fields .nil pass0 (pa_cons (pv 1) (pa_cons (pe_glob (v := .int 12) rfl T.g_FIXED_MOST ⟨_, rfl⟩) pa_nil))))) (pss_one (ps_ret pe_bl)) pss_nil)
      (pss_one (ps_ret (pe_and (pe_call (ok_is_between T) (hr.mono (by decide)) rfl T.g_is_between T.F_is_between.kp T.b_is_between .nil pass0 (pa_cons (pv 2) (pa_cons pe_int (pa_cons (pe_glob (v := .int 120) rfl T.g_ROOM_MOST ⟨_, rfl⟩) pa_nil)))) (pe_one (pe_call (ok_is_between T) (hr.mono (by decide)) rfl T.g_is_between T.F_is_between.kp T.b_is_between .nil pass0 (pa_cons (pv 3) (pa_cons pe_int (pa_cons (pe_glob (v := .int 4) rfl T.g_WAITING_MOST ⟨_, rfl⟩) pa_nil))))))))))), ?_⟩
    have k := hv.kind
    refine ⟨_, rfl, _, _, _, _, _, rfl, .ty _, k.ty, k.kit, _, rfl, ?_⟩
    refine ifb (fun e => ?_) (fun e => ?_)
    · exact iteT (Q_bl (q H (Same.refl _)) (dSetting_no (nb e)))
    · obtain ⟨a, xs, ds, rfl, rfl, hs, ha⟩ := hv.asT (nb' e)
      refine ⟨_, rfl, _, _, rfl, .inr ⟨_, hs, rfl⟩, rfl, _, rfl, ifb (fun e2 => ?_) (fun e2 => ?_)⟩
      · exact Q_bl (q H (Same.refl _)) (dSetting_ne (by rw [← ha.len]; exact nNe (m := 3) (nb e2)))
      · obtain ⟨x0, x1, x2, d0, d1, d2, rfl, rfl, h0, h1, h2⟩ := len3 ha (nAt (m := 3) (nb' e2))
        have w0 := w_tup (d := d0) (by simp) hw
        refine ⟨_, rfl, a, _, rfl, hs, rfl, ⟨_, _, rfl, ⟨_, _, rfl, ⟨_, _, rfl, rfl, ?_⟩⟩⟩⟩
        refine ⟨_, rfl, x0, d0, 12, rfl, h0, w0, fun H1 s1 => ⟨_, rfl, ifb (fun e3 => ?_) (fun e3 => ?_)⟩⟩
        · refine Q_bl (q H1 s1) ?_
          have e4 : dFields 12 d0 = false := by simpa using e3
          show (dFields 12 d0 && _ && _) = false
          rw [e4]; rfl
        · have e4 : dFields 12 d0 = true := by simpa using e3
          refine ⟨_, rfl, x1, _, 0, 120, rfl, (h1.keep s1).kind, _, rfl, ifb (fun e5 => ?_) (fun e5 => ?_)⟩
          · refine ⟨_, rfl, x2, _, 0, 4, rfl, (h2.keep s1).kind, Q_bl (q H1 s1) ?_⟩
            rw [h1.btw] at e5
            rw [h2.btw]
            show (dFields 12 d0 && dBtw d1 0 120 && dBtw d2 0 4) = _
            rw [e4, e5]; rfl
          · refine Q_bl (q H1 s1) ?_
            rw [h1.btw] at e5
            show (dFields 12 d0 && dBtw d1 0 120 && dBtw d2 0 4) = _
            rw [e4, e5]; rfl

theorem ok_entry_size (T : Txt K mg) : FnOk P w K mg base CX0 1 T.f_entry_size T.d_entry_size ["field"] (sp_entry_size K) := by
  refine T.F_entry_size.ok sc_entry_size (fun vs H Q E h => ?_) (fun cdv A outer s H vs Q E hr h => ?_)
  · obtain ⟨v, f, rfl, _⟩ := h
    rfl
  · obtain ⟨v, f, rfl, ⟨a, rfl, hs⟩, hf, q⟩ := h
    refine ⟨_, (pss_one (ps_ret (pe_op op_add (pe_op op_add (pe_callB call_len rfl T.z_len boot_len (pa_cons (pe_ix ix_tup (pv 0) pe_int (fun _ _ => rfl)) pa_nil)) (pe_callB call_len rfl T.z_len boot_len (pa_cons (pe_ix ix_tup (pv 0) pe_int (fun _ _ => rfl)) pa_nil))) (pe_glob (v := .int 4) rfl T.g_SIZE_MORE ⟨_, rfl⟩)))), ?_⟩
    have z := fsz_ge hf
    have e : (f.1.length + f.2.length + 4) = fsz f := rfl
    refine ⟨_, rfl, _, _, _, _, rfl, rfl, hs, rfl, _, _, rfl, ⟨len100 (by omega), rfl⟩, _, rfl, _, _, _, _, rfl, rfl, hs, rfl, _, _, rfl, ⟨len100 (by omega), rfl⟩, _, _, rfl, rfl, _, _, rfl, rfl, ?_⟩
    exact Q_int q (by omega)
theorem ok_BadTable_init (T : Txt K mg) : FnOk P w K mg base CX0 1 T.f_BadTable_init T.d_BadTable_init ["self", "number"] (sp_err T.C_BadTable "number") := by
  refine T.F_BadTable_init.ok sc_BadTable_init (fun vs H Q E h => ?_) (fun cdv A outer s H vs Q E hr h => ?_)
  · obtain ⟨a, k, rfl, _⟩ := h
    rfl
  · obtain ⟨a, k, rfl, hk, ha, q⟩ := h
    refine ⟨_, (pss_cons (ps_expr (pe_feinit T.B_FieldError rfl (pa_cons (pv 0) (pa_cons (pe_joined (.cons pe_str (.cons (pe_fmt (pv 1)) (.cons pe_str .nil)))) pa_nil))))
      (pss_one (ps_ost (pv 0) (pv 1)))), ?_⟩
    have ht := toString_le hk
    have hz : (Str.empty ++ (("the instruction " : String) : Str)).length = 16 := by decide +kernel
    have hz2 : (((" cannot be carried out" : String) : Str)).length = 22 := by decide +kernel
    refine ⟨_, rfl, _, rfl, by rw [hz, sizeLine_eq]; decide, _, rfl, .inr ⟨k, rfl, log_le hk, _, rfl, ?_, _, rfl, ?_, ?_⟩⟩
    · rw [strLen_append, hz, sizeLine_eq]
      omega
    · rw [strLen_append, strLen_append, hz, hz2, sizeLine_eq]; omega
    refine ⟨a, T.C_BadTable, _, rfl, by show 1 ≤ 1000; decide, T.E_BadTable.ox, ha, ?_⟩
    exact ⟨_, rfl, _, rfl, a, T.C_BadTable, rfl, T.E_BadTable.ox, T.E_BadTable.no, .inl ⟨ha, q⟩⟩
theorem ok_Table_init (T : Txt K mg) : FnOk P w K mg base CX0 1 T.f_Table_init T.d_Table_init ["self", "setting"] (sp_Table_init K) := by
  refine T.F_Table_init.ok sc_Table_init (fun vs H Q E h => ?_) (fun cdv A outer s H vs Q E hr h => ?_)
  · obtain ⟨a, C, dx, sv, F, r, w, rfl, _⟩ := h
    rfl
  · obtain ⟨a, C, dx, sv, F, r, w, rfl, ha, c, n1, n2, n3, n4, hS, q⟩ := h
    refine ⟨_, (pss_cons (ps_fld (pv 0) (pv 1) rfl)
      (pss_cons (ps_fld (pv 0) (pe_ix ix_tup (pv 1) pe_int (fun _ _ => rfl)) rfl)
      (pss_cons (ps_fld (pv 0) pe_int rfl)
      (pss_one (ps_fld (pv 0) pe_dnewK rfl))))), ?_⟩
    refine ⟨_, rfl, _, rfl, _, _, _, _, rfl, ha, c, n1, by decide, ?_⟩
    obtain ⟨sa, t, xs, rfl, g1, g2, g3⟩ := hS.ts (H' := upd H a (.ins C dx (putF "setting" sv []))) (TS.at ha nt_ins)
    refine ⟨_, rfl, _, _, _, _, rfl, rfl, g1, rfl, _, rfl, _, _, _, _, rfl, upd_same, c, n2, by show 1 < 1000; decide, ?_⟩
    refine ⟨_, rfl, _, _, _, _, rfl, upd_same, c, n3, by show 2 < 1000; decide, ?_⟩
    refine fun D hD => ?_
    have hDa : D ≠ a := fun e => by rw [e, upd_same] at hD; cases hD
    have hD0 : H D = none := by rw [upd_ne hDa, upd_ne hDa, upd_ne hDa] at hD; exact hD
    refine ⟨_, rfl, _, _, _, _, rfl, by rw [upd_ne (Ne.symm hDa)]; exact upd_same, c, n4, by show 3 < 1000; decide, ?_⟩
    refine q D _ hDa hD0 (fun b h1 h2 => ?_) upd_same (by rw [upd_ne hDa]; exact upd_same)
    rw [upd_ne h1, upd_ne h2, upd_ne h1, upd_ne h1, upd_ne h1]
theorem ok_Table_has_room (T : Txt K mg) : FnOk P w K mg base CX0 2 T.f_Table_has_room T.d_Table_has_room ["self", "field"] (sp_has_room K T.C_Table) := by
  refine T.F_Table_has_room.ok sc_Table_has_room (fun vs H Q E h => ?_) (fun cdv A outer s H vs Q E hr h => ?_)
  · obtain ⟨a, D, sv, v, F, r, w, t, f, rfl, _⟩ := h
    rfl
  · obtain ⟨a, D, sv, v, F, r, w, t, f, rfl, hT, hv, hf, q⟩ := h
    obtain ⟨dx, e⟩ := hT.ob
    refine ⟨_, (pss_one (ps_ret (pe_and (pe_cmpR op_le (pe_call (ok_entry_size T) (hr.mono (by decide)) rfl T.g_entry_size T.F_entry_size.kp T.b_entry_size .nil pass0 (pa_cons (pv 1) pa_nil)) (pe_fld (pv 0) rfl) (nomark _)) (pe_one (pe_cmpR op_lt (pe_fld (pv 0) rfl) (pe_glob (v := .int 9999) rfl T.g_NUMBER_MOST ⟨_, rfl⟩) (nomark _)))))), ?_⟩
    refine ⟨_, rfl, v, f, rfl, hv, hf, ?_⟩
    refine ⟨_, rfl, _, _, _, _, _, rfl, e, T.cl_Table, T.nA_Table_bound, rfl, _, _, rfl, rfl, _, rfl, ifb (fun h => ?_) (fun h => ?_)⟩
    · refine ⟨_, rfl, _, _, _, _, _, rfl, e, T.cl_Table, T.nA_Table_made, rfl, _, _, rfl, rfl, Q_bl q ?_⟩
      have h' : fsz f ≤ t.bound := by have : ((fsz f : Nat) : Int) ≤ (t.bound : Nat) := of_decide_eq_true h; omega
      unfold roomT
      rw [decide_eq_true h', Bool.true_and]
      exact decide_eq_decide.mpr ⟨fun z => by omega, fun z => by omega⟩
    · refine Q_bl q ?_
      have h' : ¬ fsz f ≤ t.bound := by have : ¬ ((fsz f : Nat) : Int) ≤ (t.bound : Nat) := of_decide_eq_false h; omega
      unfold roomT
      rw [decide_eq_false h', Bool.false_and]
theorem ok_Table_drop (T : Txt K mg) : FnOk P w K mg base CX0 1 T.f_Table_drop T.d_Table_drop ["self", "numbers"] (sp_drop K T.C_Table) := by
  refine T.F_Table_drop.ok sc_Table_drop (fun vs H Q E h => ?_) (fun cdv A outer s H vs Q E hr h => ?_)
  · obtain ⟨a, D, L, sv, F, r, w, b, m, t, rfl, _⟩ := h
    rfl
  · obtain ⟨a, D, L, sv, F, r, w, b, m, t, rfl, hT, ok, hL, q⟩ := h
    obtain ⟨dx, e⟩ := hT.ob
    have hDa := hT.ne
    obtain ⟨kvs, hD, hp⟩ := id hT.en
    have hLD : L ≠ D := fun z => by rw [z, hD] at hL; cases hL
    refine ⟨_, (pss_one (ps_for PassesOwn.never rfl (pi_list (pv 1)) (pg_name (i := 2) sc_Table_drop.nd rfl (Or.inl rfl))
        (pss_one (ps_ddel (pe_fld (pv 0) rfl) (pv 2))))), ?_⟩
    refine ⟨_, rfl, L, rfl, ⟨_, SqL.of hL⟩, ?_⟩
    have eg := gone_keep b m t.es
    refine for_list (K := K) (a := L) (xs := eInts (goneE b m t.es)) (fun i σ H' => ∃ v2 : Option V, σ = [some (.ref a), some (.ref L), v2] ∧ ButS [D] H H' ∧ EntV K H' D ((goneE b m t.es).drop i ++ keepE b m t.es)) ⟨_, rfl, .of (Same.refl _), by rw [List.drop_zero, eg]; exact hT.en⟩ (fun i σ H' _ ⟨_, _, k, _⟩ => SqL.of (k _ _ (by simpa using hLD) hL)) ?_ ?_
    · rintro i x σ H' hx ⟨v2, rfl, k, kv, hD', hp'⟩
      unfold eInts at hx
      rw [List.getElem?_map] at hx
      obtain ⟨en, hen, rfl⟩ := Option.map_eq_some_iff.mp hx
      have hd : (goneE b m t.es).drop i = en :: (goneE b m t.es).drop (i + 1) := by
        obtain ⟨hlt, he⟩ := List.getElem?_eq_some_iff.mp hen
        rw [List.drop_eq_getElem_cons hlt, he]
      rw [hd] at hp'
      have asc : (((en :: (goneE b m t.es).drop (i + 1)) ++ keepE b m t.es).map (·.1)).Pairwise (· < ·) := by
        refine List.Pairwise.sublist (List.Sublist.map _ ?_) ok.asc
        have h1 : ((goneE b m t.es).drop i ++ keepE b m t.es).Sublist (goneE b m t.es ++ keepE b m t.es) := List.Sublist.append (List.drop_sublist _ _) (List.Sublist.refl _)
        rw [eg, hd] at h1
        exact h1
      have dr := drop_get (n := en.1) hp'
      have dh := dropE_head (e := en) (es := (goneE b m t.es).drop (i + 1) ++ keepE b m t.es) asc
      rw [List.cons_append, dh] at dr
      have hdx := k _ _ (by simpa using Ne.symm hDa) e
      refine ⟨_, rfl, _, _, _, _, _, rfl, hdx, T.cl_Table, T.nA_Table_kept, rfl, _, rfl, D, kv, nkey en.1, rfl, hD', rfl, ?_, ?_⟩
      · rcases look_get (n := en.1) hp' with ⟨_, h0⟩ | ⟨v, f, hv, _, _⟩
        · obtain ⟨g, hg⟩ := look_has (es := en :: (goneE b m t.es).drop (i + 1) ++ keepE b m t.es) (n := en.1) (f := en.2) (List.mem_append_left _ (List.mem_cons_self ..))
          rw [h0] at hg; cases hg
        · rw [hv]; rfl
      · refine ⟨_, rfl, k.trans (ButS.set (by simp)), _, upd_same, pmap (fun _ _ z => z.ts (TS.at hD' nt_dK)) dr⟩
    · rintro σ H' ⟨v2, rfl, k, hE⟩
      refine q H' k ?_
      have : (eInts (goneE b m t.es)).length = (goneE b m t.es).length := by unfold eInts; rw [List.length_map]
      rw [this, List.drop_length, List.nil_append] at hE
      exact hE

theorem ok_is_instruction__v (T : Txt K mg) : FnOk P w K mg base CX0 3 T.f_is_instruction T.d_is_instruction ["thing"] (sp_chk K dIns) := by
  refine T.F_is_instruction.ok sc_is_instruction (fun vs H Q E h => ?_) (fun cdv A outer s H vs Q E hr h => ?_)
  · obtain ⟨v, d, rfl, _⟩ := h
    rfl
  · obtain ⟨v, d, rfl, hv, hw, q⟩ := h
    have hud : (A.deeper (envOfC "is_instruction" (defScope s_is_instruction) s.heap.objs.size T.f_is_instruction cdv)).units + 64 < cLine := by have := hr.un; omega
    have hud2 : (A.deeper (envOfC "is_instruction" (defScope s_is_instruction) s.heap.objs.size T.f_is_instruction cdv)).units + 65 < cLine := by have := hr.un; omega
    refine ⟨_, (pss_cons (ps_if (PW.pt (pw_or (pt_not (pt_val (pe_callB call_isi rfl T.z_isinstance boot_isinstance (pa_cons (pv 0) (pa_cons (pe_bltn (v := .ty "tuple") rfl T.z_tuple boot_tuple rfl) pa_nil))))) (pw_or1 (pt_cmpR op_notIn_seq (pe_callB call_len rfl T.z_len boot_len (pa_cons (pv 0) pa_nil)) (pe_tup (pa_cons pe_int (pa_cons pe_int pa_nil))) rfl)))) (pss_one (ps_ret pe_bl)) pss_nil)
      (pss_cons (ps_if (pt_cmpR op_eq (pe_callB call_len rfl T.z_len boot_len (pa_cons (pv 0) pa_nil)) pe_int (nomark _)) (pss_one (ps_ret (pe_and (pe_cmpR (op_inV hud2) (pe_ix ix_tup (pv 0) pe_int (fun _ _ => rfl)) (pe_tup (pa_cons pe_str (pa_cons pe_str pa_nil))) rfl) (pe_one (pe_call (ok_is_number T) (hr.mono (by decide)) rfl T.g_is_number T.F_is_number.kp T.b_is_number .nil pass0 (pa_cons (pe_ix ix_tup (pv 0) pe_int (fun _ _ => rfl)) pa_nil)))))) pss_nil)
      (pss_cons (ps_asg (pv 0) (pg_tup rfl (pgs_cons (pg_name (i := 1) sc_is_instruction.nd rfl (Or.inl rfl)) (pgs_cons (pg_name (i := 2) sc_is_instruction.nd rfl (Or.inl rfl)) (pgs_cons (pg_name (i := 3) sc_is_instruction.nd rfl (Or.inl rfl)) pgs_nil)))))
      (pss_cons (ps_if (pt_cmpR (op_eqV hud) (pv 1) pe_str (nomark _)) (pss_one (ps_ret (pe_and (pe_call (ok_is_name T) (hr.mono (by decide)) rfl T.g_is_name T.F_is_name.kp T.b_is_name .nil pass0 (pa_cons (pv 2) pa_nil)) (pe_one (pe_call (ok_is_value T) (hr.mono (by decide)) rfl T.g_is_value T.F_is_value.kp T.b_is_value .nil pass0 (pa_cons (pv 3) pa_nil)))))) pss_nil)
      (pss_one (ps_ret (pe_and (pe_cmpR (op_inV hud2) (pv 1) (pe_tup (pa_cons pe_str (pa_cons pe_str pa_nil))) rfl) (pe_and (pe_call (ok_is_number T) (hr.mono (by decide)) rfl T.g_is_number T.F_is_number.kp T.b_is_number .nil pass0 (pa_cons (pv 2) pa_nil)) (pe_one (pe_call (ok_is_value T) (hr.mono (by decide)) rfl T.g_is_value T.F_is_value.kp T.b_is_value .nil pass0 (pa_cons (pv 3) pa_nil))))))))))), ?_⟩
    have k := hv.kind
    refine ⟨_, rfl, _, _, _, _, _, rfl, .ty _, k.ty, k.kit, _, rfl, ifb (fun e => ?_) (fun e => ?_)⟩
    · exact iteT (Q_bl (q H (Same.refl _)) (dIns_no (nb e)))
    obtain ⟨a, xs, ds, rfl, rfl, hs, ha⟩ := hv.asT (nb' e)
    have hlen := ha.len
    refine ⟨_, rfl, _, _, rfl, .inr ⟨_, hs, rfl⟩, by show 2 ≤ sizeLine; decide, fun tp htp => ?_⟩
    have s1 : Same H (upd H tp (.tup [.int 2, .int 3])) := Same.new htp
    have hs1 := s1.tup hs
    refine ⟨tp, _, rfl, .inr (.inl (.inl upd_same)), rfl, rfl, _, rfl, ifb (fun e2 => ?_) (fun e2 => ?_)⟩
    · obtain ⟨n2, n3⟩ := in23_no e2
      exact Q_bl (q _ s1) (dIns_ne (by omega) (by omega))
    rcases in23_yes e2 with l2 | l3
    · obtain ⟨x0, x1, d0, d1, rfl, rfl, h0, h1⟩ := len2 ha l2
      have eD : dIns (.tuple [d0, d1]) = ([("again" : Str), "limit"].any (fun z => isS d0 z) && dBtw d1 0 9999) := rfl
      refine ⟨_, rfl, _, _, rfl, .inr ⟨_, hs1, rfl⟩, rfl, _, rfl, iteT ?_⟩
      refine ⟨_, rfl, _, _, _, _, rfl, rfl, hs1, rfl, by show 2 ≤ sizeLine; decide, fun tq htq => ?_⟩
      have s2 := s1.trans (Same.new (o := .tup [.str "again", .str "limit"]) htq)
      have h12 := h1.keep s2
      refine ⟨d0, tq, ["again", "limit"], h0.keep s2, rfl, SqT.of upd_same, ?_⟩
      refine ⟨_, rfl, ifb (fun e3 => ?_) (fun e3 => ?_)⟩
      · refine ⟨_, rfl, _, _, _, _, rfl, rfl, s2.tup hs, rfl, x1, _, rfl, h12.kind, Q_bl (q _ s2) ?_⟩
        rw [eD, e3, h1.btw]; rfl
      · refine Q_bl (q _ s2) ?_
        rw [eD, e3]; rfl
    · obtain ⟨x0, x1, x2, d0, d1, d2, rfl, rfl, h0, h1, h2⟩ := len3 ha l3
      have w1 := w_tup (d := d1) (by simp) hw
      have w2 := w_tup (d := d2) (by simp) hw
      have eD : dIns (.tuple [d0, d1, d2]) = (if isS d0 "new" then dTxt d1 1 20 && dTxt d2 0 40 else [("fixed" : Str), "entry"].any (fun z => isS d0 z) && (dBtw d1 0 9999 && dTxt d2 0 40)) := rfl
      refine ⟨_, rfl, _, _, rfl, .inr ⟨_, hs1, rfl⟩, rfl, _, rfl, ifF (by show decide (V.int 3 = V.int 2) = false; decide) ?_⟩
      refine ⟨_, rfl, a, _, rfl, hs1, rfl, ⟨_, _, rfl, ⟨_, _, rfl, ⟨_, _, rfl, rfl, ?_⟩⟩⟩⟩
      refine ⟨_, rfl, d0, "new", h0.keep s1, rfl, _, rfl, ifb (fun e3 => ?_) (fun e3 => ?_)⟩
      · refine ⟨_, rfl, x1, _, rfl, (h1.keep s1).kind, h1.strLe w1, fun H2 t2 => ⟨_, rfl, ifb (fun e4 => ?_) (fun e4 => ?_)⟩⟩
        · refine ⟨_, rfl, x2, _, rfl, (h2.keep (s1.trans t2)).kind, h2.strLe w2, fun H3 t3 => Q_bl (q _ ((s1.trans t2).trans t3)) ?_⟩
          rw [h1.txt] at e4
          rw [eD, e3, e4, h2.txt]; rfl
        · refine Q_bl (q _ (s1.trans t2)) ?_
          rw [h1.txt] at e4
          rw [eD, e3, e4]; rfl
      refine ⟨_, rfl, by show 2 ≤ sizeLine; decide, fun tq htq => ?_⟩
      have s2 := s1.trans (Same.new (o := .tup [.str "fixed", .str "entry"]) htq)
      refine ⟨d0, tq, ["fixed", "entry"], h0.keep s2, rfl, SqT.of upd_same, ?_⟩
      refine ⟨_, rfl, ifb (fun e4 => ?_) (fun e4 => ?_)⟩
      · refine ⟨_, rfl, x1, _, rfl, (h1.keep s2).kind, _, rfl, ifb (fun e5 => ?_) (fun e5 => ?_)⟩
        · refine ⟨_, rfl, x2, _, rfl, (h2.keep s2).kind, h2.strLe w2, fun H3 t3 => Q_bl (q _ (s2.trans t3)) ?_⟩
          rw [h1.btw] at e5
          rw [eD, e3, e4, e5, h2.txt]; rfl
        · refine Q_bl (q _ s2) ?_
          rw [h1.btw] at e5
          rw [eD, e3, e4, e5]; rfl
      · refine Q_bl (q _ s2) ?_
        rw [eD, e3, e4]; rfl
theorem ok_is_instruction (T : Txt K mg) : FnOk P w K mg base CX0 3 T.f_is_instruction T.d_is_instruction ["thing"] (sp_is_ins K) := by
  refine FnOk_weak (ok_is_instruction__v T) fun vs H Q E h => ?_
  obtain ⟨v, i, rfl, hi, ok, q⟩ := h
  obtain ⟨a, rfl, hs⟩ := hi
  refine ⟨.ref a, i.dat, rfl, .ofDp (dp_ins hs), sz_lim (sz_insD ok), ?_⟩
  rw [dIns_ok ok]
  exact q
theorem ok_check_setting (T : Txt K mg) : FnOk P w K mg base (CX P w) 6 T.f_check_setting T.d_check_setting ["setting"] (sp_check_setting K) := by
  refine T.F_check_setting.okX sc_check_setting (fun vs H Q E h => ?_) (fun cdv A outer s H vs Q E hr h => ?_)
  · obtain ⟨v, F, r, w, rfl, _⟩ := h
    rfl
  · obtain ⟨v, F, r, w, rfl, hv, ok, q⟩ := h
    refine ⟨_, (pss_one (ps_if (pt_not (pt_val (pe_call (ok_is_setting T) (hr.mono (by decide)) rfl T.g_is_setting T.F_is_setting.kp T.b_is_setting .nil pass0 (pa_cons (pv 0) pa_nil)))) (pss_one (ps_raise rfl (takes_of rfl rfl rfl rfl) (pmk_own PySem.F.excBase_ValueError T.P_NoSetting.x_ T.P_NoSetting.g T.P_NoSetting.k_ (raises_own T.P_NoSetting.b_ T.P_NoSetting.t_) rfl))) pss_nil)), ?_⟩
    refine ⟨_, rfl, v, sdat F r w, rfl, .ofDp hv.dp, lim_set ok, fun H1 s1 => ⟨_, rfl, ?_⟩⟩
    rw [dSetting_ok ok]
    exact ifF rfl (q H1 s1)
theorem ok_check_setting__x (T : Txt K mg) : FnOk P w K mg base (CX P w) 6 T.f_check_setting T.d_check_setting ["setting"] (sp_bad_setting K T.C_NoSetting) := by
  refine T.F_check_setting.okX sc_check_setting (fun vs H Q E h => ?_) (fun cdv A outer s H vs Q E hr h => ?_)
  · obtain ⟨v, d, rfl, _⟩ := h
    rfl
  · obtain ⟨v, d, rfl, hv, hw, hd, q⟩ := h
    refine ⟨_, (pss_one (ps_if (pt_not (pt_val (pe_call (ok_is_setting T) (hr.mono (by decide)) rfl T.g_is_setting T.F_is_setting.kp T.b_is_setting .nil pass0 (pa_cons (pv 0) pa_nil)))) (pss_one (ps_raise rfl (takes_of rfl rfl rfl rfl) (pmk_own PySem.F.excBase_ValueError T.P_NoSetting.x_ T.P_NoSetting.g T.P_NoSetting.k_ (raises_own T.P_NoSetting.b_ T.P_NoSetting.t_) rfl))) pss_nil)), ?_⟩
    refine ⟨_, rfl, v, d, rfl, hv, hw, fun H1 s1 => ⟨_, rfl, ?_⟩⟩
    rw [hd]
    exact ifT rfl (q H1 s1)

theorem ok_referred (T : Txt K mg) : FnOk P w K mg base CX0 1 T.f_referred T.d_referred ["fixed", "entries", "kind", "number"] (sp_referred K) := by
  refine T.F_referred.ok sc_referred (fun vs H Q E h => ?_) (fun cdv A outer s H vs Q E hr h => ?_)
  · obtain ⟨t, D, F, es, k, n, rfl, _⟩ := h
    rfl
  · obtain ⟨t, D, F, es, k, n, rfl, hT, h⟩ := h
    obtain ⟨xs, hx, hf⟩ := hT.fx
    obtain ⟨kvs, hD, hp⟩ := hT.en
    refine ⟨_, (pss_cons (ps_if (pt_cmpR op_eq (pv 2) pe_str (nomark _)) (pss_one (ps_ret (pe_dget1 (hu_of hr) (pv 1) (pv 3) ⟨rfl, rfl, rfl, rfl⟩))) pss_nil)
      (pss_cons (ps_if (pt_cmpR op_lt (pv 3) (pe_callB call_len rfl T.z_len boot_len (pa_cons (pv 0) pa_nil)) (nomark _)) (pss_one (ps_ret (pe_ix ix_tup (pv 0) (pv 3) (fun _ _ => rfl)))) pss_nil)
      (pss_one (ps_ret pe_non)))), ?_⟩
    have hl := p_len hf
    rcases h with ⟨rfl, q⟩ | ⟨rfl, q⟩
    · refine ⟨_, rfl, rfl, _, rfl, ifF (by decide) ?_⟩
      refine ⟨_, rfl, _, rfl, _, _, rfl, .inr ⟨_, hx, rfl⟩, _, _, rfl, rfl, _, rfl, ifb (fun e => ?_) (fun e => ?_)⟩
      · have e' : (n : Int) < (xs.length : Int) := by simpa using e
        have hn : n < F.length := by omega
        obtain ⟨v, hv, hfd⟩ := p_at' hf (List.getElem?_eq_getElem hn)
        refine ⟨_, rfl, _, rfl, _, _, _, v, rfl, rfl, hx, atI_nat hv, q v ?_⟩
        rw [List.getElem?_eq_getElem hn]; exact hfd
      · have e' : ¬ (n : Int) < (xs.length : Int) := by simpa using e
        refine q .non ?_
        rw [List.getElem?_eq_none (by omega)]; rfl
    · refine ⟨_, rfl, rfl, _, rfl, ifT (by decide) ?_⟩
      refine ⟨_, rfl, D, rfl, .inl ⟨kvs, .inl hD⟩, _, rfl, _, DGet.k (k := nkey n) hD, ?_⟩
      rcases look_get (n := n) hp with ⟨h1, h2⟩ | ⟨v, f, h1, h2, h3⟩
      · rw [h1]; exact q _ (by rw [h2]; rfl)
      · rw [h1]; exact q _ (by rw [h2]; exact h3)
theorem ok_said_field (T : Txt K mg) : FnOk P w K mg base CX0 2 T.f_said_field T.d_said_field ["fixed", "entries", "line"] (sp_said_field K) := by
  refine T.F_said_field.ok sc_said_field (fun vs H Q E h => ?_) (fun cdv A outer s H vs Q E hr h => ?_)
  · obtain ⟨t, D, F, es, v, l, rfl, _⟩ := h
    rfl
  · obtain ⟨t, D, F, es, v, l, rfl, hT, ⟨a, rfl, hs⟩, q⟩ := h
    refine ⟨_, (pss_cons (ps_if (pt_cmpR op_eq (pe_ix ix_tup (pv 2) pe_int (fun _ _ => rfl)) pe_str (nomark _)) (pss_one (ps_ret (pe_tup (pa_cons (pe_ix ix_tup (pv 2) pe_int (fun _ _ => rfl)) (pa_cons (pe_ix ix_tup (pv 2) pe_int (fun _ _ => rfl)) pa_nil))))) pss_nil)
      (pss_cons (ps_set (i := 3) sc_said_field.nd rfl (Or.inl rfl) (pe_call (ok_referred T) (hr.mono (by decide)) rfl T.g_referred T.F_referred.kp T.b_referred .nil pass0 (pa_cons (pv 0) (pa_cons (pv 1) (pa_cons (pe_ix ix_tup (pv 2) pe_int (fun _ _ => rfl)) (pa_cons (pe_ix ix_tup (pv 2) pe_int (fun _ _ => rfl)) pa_nil))))))
      (pss_cons (ps_if (PW.pt (pw_or (pt_cmpR op_isN (pv 3) pe_non (nomark _)) (pw_or1 (pt_cmpR op_eq (pe_callB call_len rfl T.z_len boot_len (pa_cons (pv 2) pa_nil)) pe_int (nomark _))))) (pss_one (ps_ret (pv 3))) pss_nil)
      (pss_one (ps_ret (pe_tup (pa_cons (pe_ix ix_tup (pv 3) pe_int (fun _ _ => rfl)) (pa_cons (pe_ix ix_tup (pv 2) pe_int (fun _ _ => rfl)) pa_nil)))))))), ?_⟩
    have e22 : decide (V.int 2 = V.int 2) = true := by decide
    have e32 : decide (V.int 3 = V.int 2) = false := by decide
    cases l with
    | out y x =>
      refine ⟨_, rfl, _, _, _, _, rfl, rfl, hs, rfl, rfl, _, rfl, ifT (by decide) ?_⟩
      refine ⟨_, rfl, _, _, _, _, rfl, rfl, hs, rfl, _, rfl, _, _, _, _, rfl, rfl, hs, rfl, by show 2 ≤ sizeLine; decide, fun p hp => ?_⟩
      exact q _ _ (Same.new hp) ⟨p, rfl, SqT.of upd_same⟩
    | fix1 n =>
      refine ⟨_, rfl, _, _, _, _, rfl, rfl, hs, rfl, rfl, _, rfl, ifF (by decide) ?_⟩
      refine ⟨_, rfl, _, rfl, _, rfl, _, _, _, _, rfl, rfl, hs, rfl, _, rfl, _, _, _, _, rfl, rfl, hs, rfl, t, D, F, es, "fixed", n, rfl, hT, .inl ⟨rfl, fun v hv => ?_⟩⟩
      have hv' : OFd K H v (said1 F es (.fix1 n)) := hv
      cases hc : F[n]? with
      | none => rw [hc] at hv; cases (show v = .non from hv); exact ⟨_, rfl, rfl, _, rfl, ifT rfl ⟨_, rfl, q _ _ (Same.refl _) hv'⟩⟩
      | some f =>
        rw [hc] at hv
        obtain ⟨b, rfl, hb⟩ := (show FdV K H v f from hv)
        exact ⟨_, rfl, rfl, _, rfl, ifF rfl ⟨_, rfl, _, _, rfl, .inr ⟨_, hs, rfl⟩, rfl, _, rfl, ifT e22 ⟨_, rfl, q _ _ (Same.refl _) hv'⟩⟩⟩
    | ent1 n =>
      refine ⟨_, rfl, _, _, _, _, rfl, rfl, hs, rfl, rfl, _, rfl, ifF (by decide) ?_⟩
      refine ⟨_, rfl, _, rfl, _, rfl, _, _, _, _, rfl, rfl, hs, rfl, _, rfl, _, _, _, _, rfl, rfl, hs, rfl, t, D, F, es, "entry", n, rfl, hT, .inr ⟨rfl, fun v hv => ?_⟩⟩
      have hv' : OFd K H v (said1 F es (.ent1 n)) := hv
      cases hc : lookE es n with
      | none => rw [hc] at hv; cases (show v = .non from hv); exact ⟨_, rfl, rfl, _, rfl, ifT rfl ⟨_, rfl, q _ _ (Same.refl _) hv'⟩⟩
      | some f =>
        rw [hc] at hv
        obtain ⟨b, rfl, hb⟩ := (show FdV K H v f from hv)
        exact ⟨_, rfl, rfl, _, rfl, ifF rfl ⟨_, rfl, _, _, rfl, .inr ⟨_, hs, rfl⟩, rfl, _, rfl, ifT e22 ⟨_, rfl, q _ _ (Same.refl _) hv'⟩⟩⟩
    | fix2 n x =>
      refine ⟨_, rfl, _, _, _, _, rfl, rfl, hs, rfl, rfl, _, rfl, ifF (by decide) ?_⟩
      refine ⟨_, rfl, _, rfl, _, rfl, _, _, _, _, rfl, rfl, hs, rfl, _, rfl, _, _, _, _, rfl, rfl, hs, rfl, t, D, F, es, "fixed", n, rfl, hT, .inl ⟨rfl, fun v hv => ?_⟩⟩
      have e1 : said1 F es (.fix2 n x) = (F[n]?).map fun f => (f.1, x) := rfl
      cases hc : F[n]? with
      | none =>
        rw [hc] at hv e1; cases (show v = .non from hv)
        exact ⟨_, rfl, rfl, _, rfl, ifT rfl ⟨_, rfl, q _ _ (Same.refl _) (by rw [e1]; rfl)⟩⟩
      | some f =>
        rw [hc] at hv e1
        obtain ⟨b, rfl, hb⟩ := (show FdV K H v f from hv)
        refine ⟨_, rfl, rfl, _, rfl, ifF rfl ⟨_, rfl, _, _, rfl, .inr ⟨_, hs, rfl⟩, rfl, _, rfl, ifF e32 ?_⟩⟩
        refine ⟨_, rfl, _, _, _, _, rfl, rfl, hb, rfl, _, rfl, _, _, _, _, rfl, rfl, hs, rfl, by show 2 ≤ sizeLine; decide, fun p hp => ?_⟩
        exact q _ _ (Same.new hp) (by rw [e1]; exact ⟨p, rfl, SqT.of upd_same⟩)
    | ent2 n x =>
      refine ⟨_, rfl, _, _, _, _, rfl, rfl, hs, rfl, rfl, _, rfl, ifF (by decide) ?_⟩
      refine ⟨_, rfl, _, rfl, _, rfl, _, _, _, _, rfl, rfl, hs, rfl, _, rfl, _, _, _, _, rfl, rfl, hs, rfl, t, D, F, es, "entry", n, rfl, hT, .inr ⟨rfl, fun v hv => ?_⟩⟩
      have e1 : said1 F es (.ent2 n x) = (lookE es n).map fun f => (f.1, x) := rfl
      cases hc : lookE es n with
      | none =>
        rw [hc] at hv e1; cases (show v = .non from hv)
        exact ⟨_, rfl, rfl, _, rfl, ifT rfl ⟨_, rfl, q _ _ (Same.refl _) (by rw [e1]; rfl)⟩⟩
      | some f =>
        rw [hc] at hv e1
        obtain ⟨b, rfl, hb⟩ := (show FdV K H v f from hv)
        refine ⟨_, rfl, rfl, _, rfl, ifF rfl ⟨_, rfl, _, _, rfl, .inr ⟨_, hs, rfl⟩, rfl, _, rfl, ifF e32 ?_⟩⟩
        refine ⟨_, rfl, _, _, _, _, rfl, rfl, hb, rfl, _, rfl, _, _, _, _, rfl, rfl, hs, rfl, by show 2 ≤ sizeLine; decide, fun p hp => ?_⟩
        exact q _ _ (Same.new hp) (by rw [e1]; exact ⟨p, rfl, SqT.of upd_same⟩)
theorem ok_law_open (T : Txt K mg) : FnOk P w K mg base CX0 1 T.f_law_open T.d_law_open ["script"] (sp_law_open K) := by
  refine T.F_law_open.ok sc_law_open (fun vs H Q E h => ?_) (fun cdv A outer s H vs Q E hr h => ?_)
  · obtain ⟨a, ns, rfl, _⟩ := h
    rfl
  · obtain ⟨a, ns, rfl, hS, hl, q⟩ := h
    refine ⟨_, (pss_cons (ps_set (i := 1) sc_law_open.nd rfl (Or.inl rfl) (pe_callTy call_list_of rfl T.z_list boot_list (pa_cons (pe_slice sl_list (pv 0) po_none (po_some pe_int)) pa_nil)))
      (pss_cons (ps_for PassesOwn.never rfl (pi_enum rfl T.z_enumerate (pa_cons (pe_slice sl_list (pv 0) (po_some pe_int) (po_some pe_int)) pa_nil)) (pg_tup rfl (pgs_cons (pg_name (i := 2) sc_law_open.nd rfl (Or.inl rfl)) (pgs_cons (pg_name (i := 3) sc_law_open.nd rfl (Or.inl rfl)) pgs_nil)))
        (pss_one (ps_asg (pe_op op_add (pe_ix ix_list (pv 1) (pe_op op_mod (pv 2) pe_int) (fun _ _ => rfl)) (pv 3)) (pg_sub (pv 1) (pe_op op_mod (pv 2) pe_int) set_list))))
      (pss_one (ps_ret (pe_lst (pa_cons (pv 1) (pa_cons pe_int (pa_cons pe_int pa_nil)))))))), ?_⟩
    refine ⟨_, rfl, _, rfl, a, _, rfl, hS, fun p1 hp1 => ?_⟩
    refine ⟨p1, _, rfl, .inl (SqL.of upd_same), fun c hc => ?_⟩
    have s1 : Same H (upd (upd H p1 (.lst (cutV (ns.map V.int) none (some 12)))) c (.lst (cutV (ns.map V.int) none (some 12)))) := (Same.new hp1).trans (Same.new hc)
    have hcc : H c = none := (Same.new hp1).free hc
    refine ⟨_, rfl, _, rfl, _, rfl, a, _, rfl, s1.seq hS, fun p2 hp2 => ?_⟩
    have npc : c ≠ p2 := ne_of_none upd_same hp2
    have s2 := s1.trans (Same.new (o := .lst (cutV (ns.map V.int) (some 12) (some 63))) hp2)
    refine ⟨p2, _, rfl, SqL.of upd_same, ?_⟩
    generalize hH2 : upd (upd (upd H p1 (.lst (cutV (ns.map V.int) none (some 12)))) c (.lst (cutV (ns.map V.int) none (some 12)))) p2 (.lst (cutV (ns.map V.int) (some 12) (some 63))) = H2 at s2 ⊢
    have gc : H2 c = some (.lst ((ns.take 12).map V.int)) := by
      rw [← hH2, upd_ne npc, upd_same]
      have := cut_to (ns.map V.int) 12
      rw [List.map_take]
      exact congrArg (fun l => some (HO.lst l)) this
    have g2 : H2 p2 = some (.lst (cutV (ns.map V.int) (some 12) (some 63))) := by rw [← hH2, upd_same]
    have el : (cutV (ns.map V.int) (some 12) (some 63)) = ((ns.drop 12).take 51).map V.int := by
      have := cut_mid (ns.map V.int) 12 63
      rw [List.map_take, List.map_drop]
      exact this
    rw [el] at g2
    clear hH2 el
    refine for_it (walk_enum (K := K) (a := p2) (xs := ((ns.drop 12).take 51).map V.int)) (fun i σ H' => ∃ (cs : List Int) (x y : Option V), σ = [some (.ref a), some (.ref c), x, y] ∧ But c H2 H' ∧ H' c = some (.lst (cs.map V.int)) ∧ cs.length = (ns.take 12).length)
      ⟨ns.take 12, none, none, rfl, But.refl _ _, gc, rfl⟩ (fun i σ H' _ ⟨_, _, _, _, b, _⟩ => b.seq (Ne.symm npc) (SqL.of g2)) ?_ ?_
    · rintro i x σ H' H'' hi ⟨cs, v1, v2, rfl, b, hcs, hlen⟩ ⟨t, z1, z2, rfl, ht, rfl, e1, e2⟩
      cases e1
      have e3 : ∃ z : Int, z2 = .int z := by
        replace e2 : (((ns.drop 12).take 51).map V.int)[i]? = some z2 := e2
        rw [List.getElem?_map] at e2
        cases e4 : ((ns.drop 12).take 51)[i]? with
        | none => rw [e4] at e2; cases e2
        | some z => rw [e4] at e2; exact ⟨z, (Option.some.inj e2).symm⟩
      obtain ⟨z, rfl⟩ := e3
      have h12 : cs.length = 12 := by
        rw [hlen]
        rw [List.length_map, List.length_take, List.length_drop] at hi
        rw [List.length_take]
        omega
      have hm : i % 12 < cs.length := by omega
      have nct : c ≠ t := ne_of_none hcs ht
      have hcs' : upd H' t (.tup [.int (i : Nat), .int z]) c = some (.lst (cs.map V.int)) := by rw [upd_ne nct]; exact hcs
      refine ⟨t, _, rfl, SqT.of upd_same, rfl, _, _, rfl, _, _, rfl, rfl, ?_⟩
      have em : ((i : Nat) : Int) % 12 = ((i % 12 : Nat) : Int) := by omega
      have ea : atI (cs.map V.int) (((i : Nat) : Int) % 12) = some (.int cs[i % 12]) := by
        rw [em]
        exact atI_nat (by rw [List.getElem?_map, List.getElem?_eq_getElem hm]; rfl)
      refine ⟨_, rfl, _, rfl, _, _, rfl, rfl, (by show (0 : Int) < 12; decide), c, _, _, _, rfl, rfl, SqL.of hcs', ea, _, rfl, _, _, rfl, rfl, ?_⟩
      refine ⟨_, rfl, _, rfl, _, _, rfl, rfl, (by show (0 : Int) < 12; decide), c, _, _, i % 12, rfl, rfl, hcs', ?_, ?_⟩
      · show ixN (cs.map V.int).length (((i : Nat) : Int) % 12) = _
        rw [em]
        exact Evl.ixN_nat (by rw [List.length_map]; exact hm)
      · refine ⟨cs.set (i % 12) (cs[i % 12] + z), _, _, rfl, (b.trans (But.new ht)).trans But.set, ?_, by rw [List.length_set]; exact hlen⟩
        rw [upd_same, ← List.map_set]
    · rintro σ H' ⟨cs, v1, v2, rfl, b, hcs, hlen⟩
      refine ⟨_, rfl, (by show 3 ≤ sizeLine; decide), fun p hp => ?_⟩
      have s3 : Same H H' := fun u o e => b u o (ne_of_none e hcc) (s2 u o e)
      refine q p c _ (s3.free hp) (s3.put (s3.free hp)) ⟨0, 0, cs, upd_same, ?_, ne_of_none hcs hp, ?_, Nat.le_refl _⟩
      · rw [upd_ne (ne_of_none hcs hp)]; exact hcs
      · rw [hlen, List.length_take]; omega
theorem ok_law_spread (T : Txt K mg) : FnOk P w K mg base CX0 1 T.f_law_spread T.d_law_spread ["cell", "at"] sp_law_spread := by
  refine T.F_law_spread.ok sc_law_spread (fun vs H Q E h => ?_) (fun cdv A outer s H vs Q E hr h => ?_)
  · obtain ⟨c, a, rfl, _⟩ := h
    rfl
  · obtain ⟨c, a, rfl, ha, q⟩ := h
    refine ⟨_, (pss_cons (ps_if (pt_cmpR op_ge (pv 0) (pe_op op_pow pe_int pe_int) (nomark _)) (pss_one (ps_ret (pv 0))) pss_nil)
      (pss_cons (ps_set (i := 2) sc_law_spread.nd rfl (Or.inl rfl) (pe_lst (pa_cons pe_int (pa_cons pe_int (pa_cons pe_int (pa_cons pe_int (pa_cons pe_int (pa_cons pe_int (pa_cons pe_int (pa_cons pe_int pa_nil))))))))))
      (pss_cons (ps_set (i := 2) sc_law_spread.nd rfl (Or.inl rfl) (pe_op op_cat (pv 2) (pe_lst (pa_cons pe_int (pa_cons pe_int (pa_cons pe_int (pa_cons pe_int (pa_cons pe_int pa_nil))))))))
      (Evl.pss_cut (ps_set (i := 3) sc_law_spread.nd rfl (Or.inl rfl) (pe_op op_mod (pe_op op_pow (pe_op op_add (pe_op op_add (pe_op op_mul (pe_op op_mod (pv 0) pe_int) (pe_op op_add (pe_op op_mul pe_int (pv 1)) pe_int)) (pe_op op_mul (pv 1) pe_int)) pe_int) pe_int) (pe_ix ix_list (pv 2) (pe_op op_mod (pv 1) pe_int) (fun _ _ => rfl))))
      (Evl.pss_cut (ps_set (i := 4) sc_law_spread.nd rfl (Or.inl rfl) (pe_op op_mod (pe_op op_pow (pe_op op_add (pe_op op_add (pe_op op_mul (pv 3) (pe_op op_add (pv 1) pe_int)) (pe_op op_mod (pv 0) pe_int)) pe_int) pe_int) (pe_ix ix_list (pv 2) (pe_op op_mod (pe_op op_add (pv 1) pe_int) pe_int) (fun _ _ => rfl))))
      (Evl.pss_cut (ps_set (i := 5) sc_law_spread.nd rfl (Or.inl rfl) (pe_op op_mod (pe_op op_pow (pe_op op_add (pe_op op_add (pv 4) (pe_op op_mod (pv 3) pe_int)) (pv 1)) pe_int) (pe_ix ix_list (pv 2) (pe_op op_mod (pe_op op_add (pv 1) pe_int) pe_int) (fun _ _ => rfl))))
      (pss_one (ps_ret (pe_op op_add (pe_op op_mul (pe_op op_add (pe_op op_mul (pv 3) pe_int) (pv 4)) pe_int) (pv 5)))))))))), ?_⟩
    refine ⟨_, rfl, _, _, rfl, rfl, ⟨by decide, by decide, by decide⟩, _, _, rfl, rfl, _, rfl, ?_⟩
    refine ifb (fun _ => ?_) (fun _ => ?_)
    · exact ⟨_, rfl, q c H (Same.refl _)⟩
    refine ⟨by show 8 ≤ sizeLine; decide, fun p1 hp1 => ?_⟩
    refine ⟨_, rfl, by show 5 ≤ sizeLine; decide, fun p2 hp2 => ?_⟩
    have n12 : p1 ≠ p2 := ne_of_none upd_same hp2
    refine ⟨p1, p2, _, _, rfl, rfl, by rw [upd_ne n12]; exact upd_same, upd_same, by show 13 ≤ sizeLine; decide, fun p3 hp3 => ?_⟩
    have s3 : Same H _ := ((Same.new hp1).trans (Same.new hp2)).trans (Same.new (o := .lst (primes.map V.int)) hp3)
    have g3 : upd (upd (upd H p1 (.lst [.int 2147483629, .int 2147483587, .int 2147483579, .int 2147483563, .int 2147483549, .int 2147483543, .int 2147483497, .int 2147483489])) p2 (.lst [.int 2147483477, .int 2147483423, .int 2147483399, .int 2147483353, .int 2147483323])) p3 (.lst (primes.map V.int)) p3 = some (.lst (primes.map V.int)) := upd_same
    have hm1 : 0 ≤ c % 1000000007 ∧ c % 1000000007 < 1000000007 := ⟨Int.emod_nonneg _ (by decide), Int.emod_lt_of_pos _ (by decide)⟩
    have hm2 : 0 ≤ c % 65537 ∧ c % 65537 < 65537 := ⟨Int.emod_nonneg _ (by decide), Int.emod_lt_of_pos _ (by decide)⟩
    have ix : ∀ k : Nat, ∃ r : Int, atI (primes.map V.int) (((k : Nat) : Int) % 13) = some (.int r) ∧ 0 < r ∧ r < 2147483648 := fun k => primes_at (Int.emod_nonneg _ (by decide)) (Int.emod_lt_of_pos _ (by decide))
    obtain ⟨r1, i1, r1p, r1b⟩ := ix a
    obtain ⟨r2, i2, r2p, r2b⟩ := ix (a + 5)
    obtain ⟨r3, i3, r3p, r3b⟩ := ix (a + 7)
    rw [Int.natCast_add] at i2 i3
    have e18 : (10 : Int) ^ 18 = 1000000000000000000 := by decide
    have b1 := mul_bd (A := 1000000007) (B := 2069069) hm1.1 (Int.le_of_lt hm1.2) (b := 2 * (a : Int) + 69069) (by omega) (by omega)
    refine ⟨fun σ' H' => ∃ one : Int, σ' = [some (.int c), some (.int (a : Nat)), some (.ref p3), some (.int one), none, none] ∧ (0 ≤ one ∧ one < 2147483648) ∧ H' p3 = some (.lst (primes.map V.int)) ∧ Same H H', ?_, ?_⟩
    · refine ⟨_, rfl, _, _, rfl, rfl, (by show (0 : Int) < 1000000007; decide), _, rfl, _, _, rfl, rfl, .inl ⟨by decide, by decide⟩, _, _, rfl, rfl, _, _, rfl, rfl, mul64 hm1.1 (by omega),
        _, rfl, _, _, rfl, rfl, .inr ⟨by decide, by decide⟩, _, _, rfl, rfl, _, _, rfl, rfl, _, _, rfl, rfl, ⟨by decide, by decide, pow_small (by omega) (by omega)⟩,
        _, rfl, _, rfl, _, _, rfl, rfl, (by show (0 : Int) < 13; decide), p3, _, _, _, rfl, rfl, SqL.of g3, i1, _, _, rfl, rfl, r1p, ?_⟩
      exact ⟨_, rfl, ⟨Int.emod_nonneg _ (by omega), Int.lt_trans (Int.emod_lt_of_pos _ r1p) r1b⟩, g3, s3⟩
    · rintro σ' H' ⟨one, rfl, hone, g3, s3⟩
      have b2 := mul_bd (A := 2147483648) (B := 1000003) hone.1 (Int.le_of_lt hone.2) (b := (a : Int) + 3) (by omega) (by omega)
      refine ⟨fun σ' H' => ∃ two : Int, σ' = [some (.int c), some (.int (a : Nat)), some (.ref p3), some (.int one), some (.int two), none] ∧ (0 ≤ two ∧ two < 2147483648) ∧ H' p3 = some (.lst (primes.map V.int)) ∧ Same H H', ?_, ?_⟩
      · refine ⟨_, rfl, _, rfl, _, _, rfl, rfl, _, _, rfl, rfl, mul64 hone.1 (by omega), _, rfl, _, _, rfl, rfl, (by show (0 : Int) < 65537; decide), _, _, rfl, rfl, _, _, rfl, rfl, _, _, rfl, rfl, ⟨by decide, by decide, pow_small (by omega) (by omega)⟩,
          _, rfl, _, rfl, _, _, rfl, rfl, _, _, rfl, rfl, (by show (0 : Int) < 13; decide), p3, _, _, _, rfl, rfl, SqL.of g3, i2, _, _, rfl, rfl, r2p, ?_⟩
        exact ⟨_, rfl, ⟨Int.emod_nonneg _ (by omega), Int.lt_trans (Int.emod_lt_of_pos _ r2p) r2b⟩, g3, s3⟩
      · rintro σ' H' ⟨two, rfl, htwo, g3, s3⟩
        have hm3 : 0 ≤ one % 1009 ∧ one % 1009 < 1009 := ⟨Int.emod_nonneg _ (by decide), Int.emod_lt_of_pos _ (by decide)⟩
        refine ⟨fun σ' H' => ∃ three : Int, σ' = [some (.int c), some (.int (a : Nat)), some (.ref p3), some (.int one), some (.int two), some (.int three)] ∧ Same H H', ?_, ?_⟩
        · refine ⟨_, rfl, _, rfl, _, _, rfl, rfl, (by show (0 : Int) < 1009; decide), _, _, rfl, rfl, _, rfl, _, _, rfl, rfl, _, _, rfl, rfl, ⟨by decide, by decide, pow_small (by omega) (by omega)⟩,
            _, rfl, _, rfl, _, _, rfl, rfl, _, _, rfl, rfl, (by show (0 : Int) < 13; decide), p3, _, _, _, rfl, rfl, SqL.of g3, i3, _, _, rfl, rfl, r3p, ?_⟩
          exact ⟨_, rfl, s3⟩
        · rintro σ' H' ⟨three, rfl, s3⟩
          refine ⟨_, rfl, _, _, rfl, rfl, .inr ⟨by decide, by decide⟩, _, rfl, _, _, rfl, rfl, _, _, rfl, rfl, .inr ⟨by decide, by decide⟩, _, rfl, _, _, rfl, rfl, ?_⟩
          exact q _ H' s3

theorem ok_law_take (T : Txt K mg) : FnOk P w K mg base CX0 2 T.f_law_take T.d_law_take ["pen", "amount"] sp_law_take := by
  refine T.F_law_take.ok sc_law_take (fun vs H Q E h => ?_) (fun cdv A outer s H vs Q E hr h => ?_)
  · obtain ⟨p, c, n, k, rfl, _⟩ := h
    rfl
  · obtain ⟨p, c, n, k, rfl, ⟨a, acc, ns, gp, gc, ncp, hns, han⟩, hk0, hk, hn, q⟩ := h
    refine ⟨_, (Evl.pss_cut (ps_if (pt_cmpR op_lt (pe_ix ix_list (pv 0) pe_int (fun _ _ => rfl)) (pv 1) (nomark _)) (pss_cons (ps_set (i := 2) sc_law_take.nd rfl (Or.inl rfl) (pe_ix ix_list (pv 0) pe_int (fun _ _ => rfl)))
      (pss_cons (ps_set (i := 3) sc_law_take.nd rfl (Or.inl rfl) pe_int)
      (Evl.pss_cut (ps_if (pt_cmpR op_lt (pv 2) (pe_callB call_len rfl T.z_len boot_len (pa_cons (pe_ix ix_list (pv 0) pe_int (fun _ _ => rfl)) pa_nil)) (nomark _)) (pss_one (ps_set (i := 3) sc_law_take.nd rfl (Or.inl rfl) (pe_ix ix_list (pe_ix ix_list (pv 0) pe_int (fun _ _ => rfl)) (pv 2) (fun _ _ => rfl)))) (pss_one (ps_if (pt_cmpR op_gt (pe_callB call_len rfl T.z_len boot_len (pa_cons (pe_ix ix_list (pv 0) pe_int (fun _ _ => rfl)) pa_nil)) pe_int (nomark _)) (pss_one (ps_set (i := 3) sc_law_take.nd rfl (Or.inl rfl) (pe_op op_mod (pe_ix ix_list (pe_ix ix_list (pv 0) pe_int (fun _ _ => rfl)) (pe_op op_mod (pe_op op_add (pe_op op_mul (pv 2) pe_int) pe_int) (pe_callB call_len rfl T.z_len boot_len (pa_cons (pe_ix ix_list (pv 0) pe_int (fun _ _ => rfl)) pa_nil))) (fun _ _ => rfl)) (pe_op op_add (pe_op op_pow pe_int pe_int) (pv 2))))) pss_nil)))
      (pss_cons (ps_asg (pe_op op_add (pv 2) pe_int) (pg_sub (pv 0) pe_int set_list))
      (pss_one (ps_asg (pe_call (ok_law_spread T) (hr.mono (by decide)) rfl T.g_law_spread T.F_law_spread.kp T.b_law_spread .nil pass0 (pa_cons (pv 3) (pa_cons (pv 2) pa_nil))) (pg_sub (pv 0) pe_int set_list))))))) pss_nil)
      (pss_cons (ps_set (i := 4) sc_law_take.nd rfl (Or.inl rfl) (pe_op op_mod (pe_ix ix_list (pv 0) pe_int (fun _ _ => rfl)) (pv 1)))
      (pss_cons (ps_asg (pe_op op_fdiv (pe_ix ix_list (pv 0) pe_int (fun _ _ => rfl)) (pv 1)) (pg_sub (pv 0) pe_int set_list))
      (pss_one (ps_ret (pv 4)))))), ?_⟩
    refine ⟨fun σ' H' => ∃ (a' : Nat) (acc' : Int) (x y : Option V), σ' = [some (.ref p), some (.int k), x, y, none] ∧ But p H H' ∧ H' p = some (.lst [.ref c, .int (a' : Nat), .int acc']) ∧ H' c = some (.lst (ns.map V.int)) ∧ a' ≤ n + 1, ?_, ?_⟩
    · refine ⟨_, rfl, p, _, _, _, rfl, rfl, SqL.of gp, rfl, _, rfl, _, _, rfl, rfl, _, rfl, ?_⟩
      refine ifb (fun _ => ?_) (fun _ => ?_)
      · refine ⟨_, rfl, p, _, _, _, rfl, rfl, SqL.of gp, rfl, ?_⟩
        refine ⟨fun σ' H' => ∃ z : Int, σ' = [some (.ref p), some (.int k), some (.int (a : Nat)), some (.int z), none] ∧ H = H', ?_, ?_⟩
        · refine ⟨_, rfl, _, rfl, p, _, _, _, rfl, rfl, SqL.of gp, rfl, _, _, rfl, .inl ⟨_, SqL.of gc, rfl⟩, _, _, rfl, rfl, _, rfl, ?_⟩
          rw [List.length_map]
          by_cases c1 : a < ns.length
          · refine ifT (decide_eq_true (by omega)) ?_
            refine ⟨_, rfl, p, _, _, _, rfl, rfl, SqL.of gp, rfl, _, rfl, c, _, _, _, rfl, rfl, SqL.of gc, atI_nat (j := a) (v := .int ns[a]) (by rw [List.getElem?_map, List.getElem?_eq_getElem c1]; rfl), ?_⟩
            exact ⟨_, rfl, rfl⟩
          · refine ifF (decide_eq_false (by omega)) ?_
            refine ⟨_, rfl, p, _, _, _, rfl, rfl, SqL.of gp, rfl, _, _, rfl, .inl ⟨_, SqL.of gc, rfl⟩, _, _, rfl, rfl, _, rfl, ?_⟩
            rw [List.length_map]
            by_cases c2 : 0 < ns.length
            · refine ifT (decide_eq_true (by omega)) ?_
              have hm : (((a : Nat) : Int) * 5 + 3) % ((ns.length : Nat) : Int) = (((a * 5 + 3) % ns.length : Nat) : Int) := by
                rw [Int.natCast_emod]; rfl
              have hlt : (a * 5 + 3) % ns.length < ns.length := Nat.mod_lt _ c2
              obtain ⟨w0, ea⟩ : ∃ w0 : Int, atI (ns.map V.int) ((((a : Nat) : Int) * 5 + 3) % (((ns.map V.int).length : Nat) : Int)) = some (.int w0) := by
                rw [List.length_map, hm]
                exact ⟨ns[(a * 5 + 3) % ns.length], atI_nat (by rw [List.getElem?_map, List.getElem?_eq_getElem hlt]; rfl)⟩
              have pos : (0 : Int) < (((ns.map V.int).length : Nat) : Int) := by rw [List.length_map]; omega
              have e17 : (10 : Int) ^ (17 : Int).toNat = 100000000000000000 := by decide
              refine ⟨_, rfl, p, _, _, _, rfl, rfl, SqL.of gp, rfl, _, rfl, _, _, rfl, rfl, .inr ⟨by decide, by decide⟩, _, _, rfl, rfl, _, rfl, p, _, _, _, rfl, rfl, SqL.of gp, rfl, _, _, rfl, .inl ⟨_, SqL.of gc, rfl⟩, _, _, rfl, rfl, pos,
                c, _, _, _, rfl, rfl, SqL.of gc, ea, _, _, rfl, rfl, ⟨by decide, by decide, by decide⟩, _, rfl, _, _, rfl, rfl, _, _, rfl, rfl, ?_, ?_⟩
              · show (0 : Int) < (10 : Int) ^ (17 : Int).toNat + (a : Int)
                rw [e17]
                omega
              · exact ⟨_, rfl, rfl⟩
            · refine ifF (decide_eq_false (by omega)) ?_
              exact ⟨_, rfl, rfl⟩
        · rintro σ' H' ⟨z, rfl, rfl⟩
          refine ⟨_, rfl, _, _, rfl, rfl, _, rfl, p, _, _, 1, rfl, rfl, gp, rfl, ?_⟩
          refine ⟨_, rfl, _, rfl, z, a, rfl, by omega, fun r H' s1 => ?_⟩
          have g1 : H' p = some (.lst [.ref c, .int ((a + 1 : Nat) : Int), .int acc]) := s1 _ _ upd_same
          have gc1 : H' c = some (.lst (ns.map V.int)) := s1 _ _ (by rw [upd_ne ncp]; exact gc)
          refine ⟨_, rfl, p, _, _, 2, rfl, rfl, g1, rfl, ?_⟩
          exact ⟨a + 1, r, _, _, rfl, (But.set.trans (But.of s1)).trans But.set, upd_same, by rw [upd_ne ncp]; exact gc1, by omega⟩
      · exact ⟨a, acc, none, none, rfl, But.refl _ _, gp, gc, by omega⟩
    · rintro σ' H' ⟨a', acc', x, y, rfl, b, gp', gc', ha'⟩
      refine ⟨_, rfl, p, _, _, _, rfl, rfl, SqL.of gp', rfl, _, rfl, _, _, rfl, rfl, hk0, ?_⟩
      refine ⟨_, rfl, p, _, _, _, rfl, rfl, SqL.of gp', rfl, _, rfl, _, _, rfl, rfl, ⟨hk0, hk⟩, _, rfl, p, _, _, 2, rfl, rfl, gp', rfl, ?_⟩
      refine ⟨_, rfl, ?_⟩
      exact q _ _ (Int.emod_nonneg _ (by omega)) (Int.emod_lt_of_pos _ hk0) ⟨⟨a', _, ns, upd_same, by rw [upd_ne ncp]; exact gc', ncp, hns, ha'⟩, b.trans But.set⟩
theorem ok_law_one_of (T : Txt K mg) : FnOk P w K mg base CX0 3 T.f_law_one_of T.d_law_one_of ["pen", "some"] (sp_law_one_of K) := by
  refine T.F_law_one_of.ok sc_law_one_of (fun vs H Q E h => ?_) (fun cdv A outer s H vs Q E hr h => ?_)
  · obtain ⟨p, c, a, n, xs, rfl, _⟩ := h
    rfl
  · obtain ⟨p, c, a, n, xs, rfl, hp, hS, nap, hne, hz, hn, q⟩ := h
    refine ⟨_, (pss_one (ps_ret (pe_ix ix_list (pv 1) (pe_call (ok_law_take T) (hr.mono (by decide)) rfl T.g_law_take T.F_law_take.kp T.b_law_take .nil pass0 (pa_cons (pv 0) (pa_cons (pe_callB call_len rfl T.z_len boot_len (pa_cons (pv 1) pa_nil)) pa_nil))) (fun _ _ => rfl)))), ?_⟩
    have hpos : 0 < xs.length := List.length_pos_iff.mpr hne
    refine ⟨_, rfl, _, rfl, _, rfl, _, _, rfl, .inl ⟨_, hS, rfl⟩, ?_⟩
    refine ⟨p, c, n, xs.length, rfl, hp, by omega, by omega, hn, fun r H' h0 h1 d => ?_⟩
    have hr' : r.toNat < xs.length := by omega
    have er : r = ((r.toNat : Nat) : Int) := by omega
    refine ⟨a, xs, r, xs[r.toNat], rfl, rfl, d.but.seq nap hS, ?_, ?_⟩
    · exact at_of er (List.getElem?_eq_getElem hr')
    · exact q _ H' (List.getElem_mem hr') d
theorem ok_law_signs (T : Txt K mg) : FnOk P w K mg base CX0 1 T.f_law_signs T.d_law_signs [] sp_law_signs := by
  refine T.F_law_signs.ok sc_law_signs (fun vs H Q E h => ?_) (fun cdv A outer s H vs Q E hr h => ?_)
  · obtain ⟨rfl, _⟩ := h
    rfl
  · obtain ⟨rfl, q⟩ := h
    refine ⟨_, (pss_one (ps_ret pe_str)), ?_⟩
    exact q

theorem ok_law_draw_text (T : Txt K mg) : FnOk P w K mg base CX0 4 T.f_law_draw_text T.d_law_draw_text ["pen", "least", "most"] sp_law_draw_text := by
  refine T.F_law_draw_text.ok sc_law_draw_text (fun vs H Q E h => ?_) (fun cdv A outer s H vs Q E hr h => ?_)
  · obtain ⟨p, c, n, a, b, rfl, _⟩ := h
    rfl
  · obtain ⟨p, c, n, a, b, rfl, hp, hn, ha1, hab, hb, q⟩ := h
    refine ⟨_, (pss_cons (ps_set (i := 3) sc_law_draw_text.nd rfl (Or.inl rfl) (pe_call (ok_law_one_of T) (hr.mono (by decide)) rfl T.g_law_one_of T.F_law_one_of.kp T.b_law_one_of .nil pass0 (pa_cons (pv 0) (pa_cons (pe_lst (pa_cons (pv 1) (pa_cons (pv 2) (pa_cons (pe_op op_add (pv 1) (pe_call (ok_law_take T) (hr.mono (by decide)) rfl T.g_law_take T.F_law_take.kp T.b_law_take .nil pass0 (pa_cons (pv 0) (pa_cons (pe_op op_add (pe_op op_sub (pv 2) (pv 1)) pe_int) pa_nil)))) (pa_cons (pe_callB (call_min2 rfl) rfl T.z_min boot_min (pa_cons (pv 2) (pa_cons (pe_op op_add (pv 1) pe_int) pa_nil))) (pa_cons (pe_callB (call_min2 rfl) rfl T.z_min boot_min (pa_cons (pv 2) (pa_cons pe_int pa_nil))) pa_nil)))))) pa_nil))))
      (Evl.pss_cut (ps_set (i := 3) sc_law_draw_text.nd rfl (Or.inl rfl) (pe_callB (call_max2 rfl) rfl T.z_max boot_max (pa_cons (pv 1) (pa_cons (pv 3) pa_nil))))
      (pss_cons (ps_if (pt_cmpR op_eq (pe_call (ok_law_take T) (hr.mono (by decide)) rfl T.g_law_take T.F_law_take.kp T.b_law_take .nil pass0 (pa_cons (pv 0) (pa_cons pe_int pa_nil))) pe_int (nomark _)) (pss_one (ps_ret (pe_slice sl_str (pe_op op_mul_str (pe_call (ok_law_one_of T) (hr.mono (by decide)) rfl T.g_law_one_of T.F_law_one_of.kp T.b_law_one_of .nil pass0 (pa_cons (pv 0) (pa_cons (pe_lst (pa_cons pe_str (pa_cons pe_str (pa_cons pe_str (pa_cons pe_str (pa_cons pe_str pa_nil)))))) pa_nil))) pe_int) po_none (po_some (pv 3))))) pss_nil)
      (pss_one (ps_ret (pe_join pe_str (pe_lc (own := [("k", 4)]) (g := (gName 4)) (tt := tYes)  rfl sc_law_draw_text.nd (pi_range1 rfl T.z_range (pa_cons (pv 3) pa_nil)) (blkOk_by (own := [("k", 4)]) (N := ["pen", "least", "most", "size", "k"]) (sc := defScope s_law_draw_text) (by decide +kernel)) (fun _ _ _ _ _ => (pg_name (i := 4) sc_law_draw_text.nd rfl (Or.inl rfl))) (fun _ _ _ _ _ => pts_nil) (fun _ _ _ _ _ => (pe_ix ix_str (pe_call0 (ok_law_signs T) (hr.mono (by decide)) rfl T.g_law_signs T.F_law_signs.kp T.b_law_signs .nil pass0) (pe_call (ok_law_take T) (hr.mono (by decide)) rfl T.g_law_take T.F_law_take.kp T.b_law_take .nil pass0 (pa_cons (pv 0) (pa_cons pe_int pa_nil))) (fun _ _ => rfl)))))))))), ?_⟩
    refine ⟨_, rfl, _, rfl, _, rfl, _, rfl, _, rfl, _, rfl, _, rfl, _, _, rfl, rfl, _, _, rfl, rfl, p, c, n, _, rfl, hp, by omega, by omega, by omega, fun r H1 h0 h1 d1 => ?_⟩
    refine ⟨_, _, rfl, rfl, _, rfl, _, rfl, _, _, rfl, rfl, _, _, rfl, _, rfl, _, _, rfl, by show 5 ≤ sizeLine; decide, fun l hl => ?_⟩
    refine ⟨p, c, l, n + 1, _, rfl, d1.pen.keep (Same.new hl), SqL.of upd_same, Ne.symm (d1.pen.ne hl), by simp, by simp, by omega, fun x H2 hx d2 => ?_⟩
    have hx' : ∃ z : Int, x = .int z ∧ 0 ≤ z ∧ z ≤ b := by
      simp only [List.mem_cons, List.not_mem_nil, or_false] at hx
      rcases hx with h | h | h | h | h
      · exact ⟨_, h, by omega, by omega⟩
      · exact ⟨_, h, by omega, by omega⟩
      · exact ⟨_, h, by omega, by omega⟩
      · exact ⟨_, h, by split <;> omega, by split <;> omega⟩
      · exact ⟨_, h, by split <;> omega, by split <;> omega⟩
    obtain ⟨z, rfl, hz0, hz1⟩ := hx'
    have d12 : Drew p c H H2 (n + 2) := ⟨d2.pen, (d1.but.trans (But.new hl)).trans d2.but⟩
    refine ⟨fun σ' H' => ∃ k : Nat, σ' = [some (.ref p), some (.int (a : Nat)), some (.int (b : Nat)), some (.int (k : Nat)), none] ∧ a ≤ k ∧ k ≤ b ∧ H2 = H', ?_, ?_⟩
    · refine ⟨_, rfl, _, rfl, _, _, rfl, ?_⟩
      have e : (if z > (a : Int) then z else (a : Int)) = (((if z > (a : Int) then z else (a : Int)).toNat : Nat) : Int) := by split <;> omega
      refine ⟨(if z > (a : Int) then z else (a : Int)).toNat, ?_, ?_, ?_, rfl⟩
      · rw [← e]; rfl
      · split <;> omega
      · split <;> omega
    · rintro σ' H' ⟨k, rfl, hk0, hk1, rfl⟩
      refine ⟨_, rfl, p, c, n + 2, _, rfl, d12.pen, by omega, by omega, by omega, fun r3 H3 h30 h31 d3 => ?_⟩
      have d123 := d12.trans d3
      refine ⟨rfl, _, rfl, ?_⟩
      refine ifb (fun _ => ?_) (fun _ => ?_)
      · refine ⟨_, rfl, by show 5 ≤ sizeLine; decide, fun l2 hl2 => ?_⟩
        refine ⟨p, c, l2, n + 3, _, rfl, d123.pen.keep (Same.new hl2), SqL.of upd_same, Ne.symm (d123.pen.ne hl2), by simp, by simp, by omega, fun x H4 hx d4 => ?_⟩
        have hw : ∃ y ∈ textWords, x = .str y := by
          simp only [List.mem_cons, List.not_mem_nil, or_false] at hx
          rcases hx with h | h | h | h | h
          · exact ⟨_, by decide, h⟩
          · exact ⟨_, by decide, h⟩
          · exact ⟨_, by decide, h⟩
          · exact ⟨_, by decide, h⟩
          · exact ⟨_, by decide, h⟩
        obtain ⟨y, hy, rfl⟩ := hw
        have ok := List.all_eq_true.mp words_ok y hy
        simp only [Bool.and_eq_true, decide_eq_true_eq] at ok
        obtain ⟨⟨ok1, ok2⟩, ok3⟩ := ok
        refine ⟨y, 9, rfl, rfl, by decide, by decide, ok2, by omega, ?_⟩
        have hrl := rep_len y 9
        refine ⟨_, rfl, _, rfl, _, rfl, ?_, ?_⟩
        · exact len100 (by show (repS y 9).length ≤ 100000; omega)
        · refine q _ H4 ?_ ⟨d4.pen.mono (by omega), (d123.but.trans (But.new hl2)).trans d4.but⟩
          have hl9 : (repS y 9).cps.toList.length = 9 * y.length := by rw [← str_len]; exact hrl
          refine txt_cut (x := repS y 9) ?_ ⟨ha1, hk0, hk1⟩ (rep_all ok1)
          omega
      · refine ⟨⟨_, rfl⟩, _, rfl, _, rfl, by omega, by omega, fun D hD => ?_⟩
        refine lc_gen walk_range (fun i ys H' => Drew p c H3 H' (n + 3 + i) ∧ ∃ cs : List Nat, ys = cs.map (fun c => V.str ⟨#[c]⟩) ∧ cs.all isChar = true) (by omega) ?_ (fun _ _ _ _ => True.intro) ?_ ?_
        · exact ⟨⟨(d123.pen.upd (d123.pen.ne hD) (d123.pen.nec hD)).mono (by omega), But.new hD⟩, [], rfl, rfl⟩
        · rintro i ys x H' H'' Q' Z hi hl hDl ⟨d4, cs, rfl, hcs⟩ ⟨rfl, rfl⟩ q'
          refine ⟨rfl, yesI ?_⟩
          refine ⟨rfl, _, rfl, p, c, n + 3 + i, _, rfl, d4.pen, by omega, by omega, by omega, fun r5 H5 h50 h51 d5 => ?_⟩
          have hr5 : r5.toNat < charCodes.length := by
            have : charCodes.length = 43 := rfl
            omega
          have e5 : charCodes[r5.toNat]? = some charCodes[r5.toNat] := List.getElem?_eq_getElem hr5
          have e6 : signs.cps.toList[r5.toNat]? = some charCodes[r5.toNat] := by rw [signs_cps]; exact e5
          refine ⟨signs, r5, charCodes[r5.toNat], rfl, rfl, by decide, at_ofN (j := r5.toNat) (by omega) e6, ?_⟩
          have npD : p ≠ D := d123.pen.ne hD
          have ncD : c ≠ D := d123.pen.nec hD
          refine q' _ H5 (d5.but D _ (Ne.symm npD) hDl) ⟨⟨(d5.pen.upd npD ncD).mono (by omega), (d4.but.trans d5.but).put hD⟩, cs ++ [charCodes[r5.toNat]], ?_, ?_⟩
          · rw [List.map_append]; rfl
          · rw [List.all_append, hcs]
            have : isChar charCodes[r5.toNat] = true := List.contains_iff_mem.mpr (List.getElem_mem hr5)
            simp [this]
        · rintro ys H' hl hDl ⟨d4, cs, rfl, hcs⟩
          rw [List.length_map] at hl
          refine ⟨"", D, cs.map (fun c => (⟨#[c]⟩ : Str)), rfl, rfl, .inl (SqL.of (by rw [hDl, List.map_map]; rfl)), ?_, ?_⟩
          · have e0 : ("" : Str).length = 0 := rfl
            have e1 : ((cs.map (fun c => (⟨#[c]⟩ : Str))).map (·.length)).sum = cs.length := by
              rw [List.map_map]
              clear hcs hDl hl
              induction cs with
              | nil => rfl
              | cons a r ih => rw [List.map_cons, List.sum_cons, ih, List.length_cons]; show 1 + r.length = _; omega
            rw [e1, e0]
            omega
          · have ej : Txt.join "" (cs.map (fun c => (⟨#[c]⟩ : Str))) = ⟨cs.toArray⟩ := join_signs cs
            rw [ej]
            have e2 : (⟨cs.toArray⟩ : Str).length = cs.length := by show cs.toArray.size = _; simp
            refine q _ H' (txt_of (by omega) (by omega) ?_) (d123.trans (d4.mono (by omega)))
            show cs.toArray.toList.all isChar = true
            simpa using hcs

theorem same_zip {xs ys : List V} {ds : List PyData} {n : Nat} {H : Hp} {i : Nat} {x y : V} (ax : DpAll K H xs ds) (ay : DpAll K H ys ds) (hd : ∀ d ∈ ds, DLe n d) (hx : xs[i]? = some x) (hy : ys[i]? = some y) :
    ∃ d, Dp K H x d ∧ Dp K H y d ∧ DLe n d := by
  obtain ⟨d, h1, h2⟩ := dpAll_at ax hx
  obtain ⟨e, h3, h4⟩ := dpAll_at ay hy
  rw [h1] at h3
  cases h3
  exact ⟨d, h2, h4, hd d (List.mem_of_getElem? h1)⟩
theorem ok_law_same__rec (T : Txt K mg) (n k : Nat) (G : FnOk P w K mg base CX0 k T.f_law_same T.d_law_same ["found", "due"] (sp_same_sub K n)) : FnOk P w K mg base CX0 (k + 1) T.f_law_same T.d_law_same ["found", "due"] (sp_law_same K n) := by
  refine T.F_law_same.ok sc_law_same (fun vs H Q E h => ?_) (fun cdv A outer s H vs Q E hr h => ?_)
  · obtain ⟨v, u, d, rfl, _⟩ := h
    rfl
  · obtain ⟨v, u, d, rfl, hv, hu, hd, q⟩ := h
    refine ⟨_, (pss_cons (ps_if (PW.pt (pw_or (pt_cmpR op_isN (pv 1) pe_non (nomark _)) (pw_or1 (pt_cmpR op_isN (pv 0) pe_non (nomark _))))) (pss_one (ps_ret (pe_and (pe_cmpR op_isN (pv 1) pe_non (nomark _)) (pe_one (pe_cmpR op_isN (pv 0) pe_non (nomark _)))))) pss_nil)
      (pss_cons (ps_if (PW.pt (pw_or (pt_val (pe_callB call_isi rfl T.z_isinstance boot_isinstance (pa_cons (pv 1) (pa_cons (pe_bltn (v := .ty "bool") rfl T.z_bool boot_bool rfl) pa_nil)))) (pw_or1 (pt_val (pe_callB call_isi rfl T.z_isinstance boot_isinstance (pa_cons (pv 0) (pa_cons (pe_bltn (v := .ty "bool") rfl T.z_bool boot_bool rfl) pa_nil))))))) (pss_one (ps_ret (pe_and (pe_callB call_isi rfl T.z_isinstance boot_isinstance (pa_cons (pv 1) (pa_cons (pe_bltn (v := .ty "bool") rfl T.z_bool boot_bool rfl) pa_nil))) (pe_and (pe_callB call_isi rfl T.z_isinstance boot_isinstance (pa_cons (pv 0) (pa_cons (pe_bltn (v := .ty "bool") rfl T.z_bool boot_bool rfl) pa_nil))) (pe_one (pe_cmpR op_eq (pv 0) (pv 1) (nomark _))))))) pss_nil)
      (pss_cons (ps_if (pt_val (pe_callB call_isiT rfl T.z_isinstance boot_isinstance (pa_cons (pv 1) (pa_cons (pe_tup (pa_cons (pe_bltn (v := .ty "int") rfl T.z_int boot_int rfl) (pa_cons (pe_bltn (v := .ty "str") rfl T.z_str boot_str rfl) pa_nil))) pa_nil)))) (pss_cons (ps_if (pt_cmpR op_ne (pe_callB call_isi rfl T.z_isinstance boot_isinstance (pa_cons (pv 0) (pa_cons (pe_bltn (v := .ty "int") rfl T.z_int boot_int rfl) pa_nil))) (pe_callB call_isi rfl T.z_isinstance boot_isinstance (pa_cons (pv 1) (pa_cons (pe_bltn (v := .ty "int") rfl T.z_int boot_int rfl) pa_nil))) (nomark _)) (pss_one (ps_ret pe_bl)) pss_nil)
      (pss_one (ps_ret (pe_and (pe_callB call_isiT rfl T.z_isinstance boot_isinstance (pa_cons (pv 0) (pa_cons (pe_tup (pa_cons (pe_bltn (v := .ty "int") rfl T.z_int boot_int rfl) (pa_cons (pe_bltn (v := .ty "str") rfl T.z_str boot_str rfl) pa_nil))) pa_nil))) (pe_one (pe_cmpR op_eq (pv 0) (pv 1) (nomark _))))))) pss_nil)
      (pss_cons (ps_if (PW.pt (pw_or (pt_cmpR op_ne (pe_callB call_isi rfl T.z_isinstance boot_isinstance (pa_cons (pv 1) (pa_cons (pe_bltn (v := .ty "tuple") rfl T.z_tuple boot_tuple rfl) pa_nil))) (pe_callB call_isi rfl T.z_isinstance boot_isinstance (pa_cons (pv 0) (pa_cons (pe_bltn (v := .ty "tuple") rfl T.z_tuple boot_tuple rfl) pa_nil))) (nomark _)) (pw_or1 (pt_cmpR op_ne (pe_callB call_isi rfl T.z_isinstance boot_isinstance (pa_cons (pv 1) (pa_cons (pe_bltn (v := .ty "list") rfl T.z_list boot_list rfl) pa_nil))) (pe_callB call_isi rfl T.z_isinstance boot_isinstance (pa_cons (pv 0) (pa_cons (pe_bltn (v := .ty "list") rfl T.z_list boot_list rfl) pa_nil))) (nomark _))))) (pss_one (ps_ret pe_bl)) pss_nil)
      (pss_cons (ps_if (pt_cmpR op_ne (pe_callB call_len rfl T.z_len boot_len (pa_cons (pv 0) pa_nil)) (pe_callB call_len rfl T.z_len boot_len (pa_cons (pv 1) pa_nil)) (nomark _)) (pss_one (ps_ret pe_bl)) pss_nil)
      (pss_one (ps_ret (pe_cmpR op_notIn_seq pe_bl (pe_lc (own := [("one", 2), ("other", 3)]) (g := (gTup K 2 (gCons (gName 2) (gCons (gName 3) gNil)))) (tt := tYes)  rfl sc_law_same.nd (RZ.pi_zipA rfl T.z_zip (pa_cons (pv 0) (pa_cons (pv 1) pa_nil))) (blkOk_by (own := [("one", 2), ("other", 3)]) (N := ["found", "due", "one", "other"]) (sc := defScope s_law_same) (by decide +kernel)) (fun _ _ _ _ _ => (pg_tup rfl (pgs_cons (pg_name (i := 2) sc_law_same.nd rfl (Or.inl rfl)) (pgs_cons (pg_name (i := 3) sc_law_same.nd rfl (Or.inl rfl)) pgs_nil)))) (fun _ _ _ _ _ => pts_nil) (fun _ _ _ _ _ => (pe_call G hr rfl T.g_law_same T.F_law_same.kp T.b_law_same .nil pass0 (pa_cons (pv 2) (pa_cons (pv 3) pa_nil))))) rfl)))))))), ?_⟩
    cases hv with
    | non =>
      cases hu
      exact ⟨_, rfl, rfl, _, rfl, iteT ⟨_, rfl, rfl, _, rfl, iteT ⟨_, rfl, rfl, q H (Same.refl _)⟩⟩⟩
    | bl b =>
      have k0 : Kind K H (.bl b) "bool" := .bl b
      cases hu
      refine ⟨_, rfl, rfl, _, rfl, ifF rfl ⟨_, rfl, rfl, _, rfl, ifF rfl ?_⟩⟩
      refine ⟨_, rfl, _, _, _, _, _, rfl, .ty _, k0.ty, k0.kit, _, rfl, iteT ?_⟩
      refine ⟨_, rfl, _, _, _, _, _, rfl, .ty _, k0.ty, k0.kit, _, rfl, iteT ?_⟩
      refine ⟨_, rfl, _, _, _, _, _, rfl, .ty _, k0.ty, k0.kit, _, rfl, iteT ?_⟩
      exact ⟨_, rfl, _, rfl, rfl, Q_bl (q H (Same.refl _)) (decide_eq_true rfl).symm⟩
    | int i =>
      have k0 : Kind K H (.int i) "int" := .int i
      cases hu
      refine ⟨_, rfl, rfl, _, rfl, ifF rfl ⟨_, rfl, rfl, _, rfl, ifF rfl ?_⟩⟩
      refine ⟨_, rfl, _, _, _, _, _, rfl, .ty _, k0.ty, k0.kit, _, rfl, ifF rfl ?_⟩
      refine ⟨_, rfl, _, _, _, _, _, rfl, .ty _, k0.ty, k0.kit, _, rfl, ifF rfl ?_⟩
      refine ⟨_, rfl, by show 2 ≤ sizeLine; decide, fun tp htp => ?_⟩
      have k1 := k0.keep (Same.new (o := .tup [.ty "int", .ty "str"]) htp)
      refine ⟨_, tp, _, _, _, _, rfl, upd_same, .cons (.ty _) (.cons (.ty _) .nil), k1.ty, k1.kit2, _, rfl, ifT rfl ?_⟩
      refine ⟨_, rfl, _, _, _, _, _, rfl, .ty _, k1.ty, k1.kit, _, rfl, _, _, _, _, _, rfl, .ty _, k1.ty, k1.kit, rfl, _, rfl, ifF rfl ?_⟩
      refine ⟨_, rfl, by show 2 ≤ sizeLine; decide, fun tp2 htp2 => ?_⟩
      have k2 := k1.keep (Same.new (o := .tup [.ty "int", .ty "str"]) htp2)
      refine ⟨_, tp2, _, _, _, _, rfl, upd_same, .cons (.ty _) (.cons (.ty _) .nil), k2.ty, k2.kit2, _, rfl, ifT rfl ?_⟩
      exact ⟨_, rfl, _, rfl, rfl, Q_bl (q _ ((Same.new htp).trans (Same.new htp2))) (decide_eq_true rfl).symm⟩
    | str x =>
      have k0 : Kind K H (.str x) "str" := .str x
      cases hu
      refine ⟨_, rfl, rfl, _, rfl, ifF rfl ⟨_, rfl, rfl, _, rfl, ifF rfl ?_⟩⟩
      refine ⟨_, rfl, _, _, _, _, _, rfl, .ty _, k0.ty, k0.kit, _, rfl, ifF rfl ?_⟩
      refine ⟨_, rfl, _, _, _, _, _, rfl, .ty _, k0.ty, k0.kit, _, rfl, ifF rfl ?_⟩
      refine ⟨_, rfl, by show 2 ≤ sizeLine; decide, fun tp htp => ?_⟩
      have k1 := k0.keep (Same.new (o := .tup [.ty "int", .ty "str"]) htp)
      refine ⟨_, tp, _, _, _, _, rfl, upd_same, .cons (.ty _) (.cons (.ty _) .nil), k1.ty, k1.kit2, _, rfl, ifT rfl ?_⟩
      refine ⟨_, rfl, _, _, _, _, _, rfl, .ty _, k1.ty, k1.kit, _, rfl, _, _, _, _, _, rfl, .ty _, k1.ty, k1.kit, rfl, _, rfl, ifF rfl ?_⟩
      refine ⟨_, rfl, by show 2 ≤ sizeLine; decide, fun tp2 htp2 => ?_⟩
      have k2 := k1.keep (Same.new (o := .tup [.ty "int", .ty "str"]) htp2)
      refine ⟨_, tp2, _, _, _, _, rfl, upd_same, .cons (.ty _) (.cons (.ty _) .nil), k2.ty, k2.kit2, _, rfl, ifT rfl ?_⟩
      exact ⟨_, rfl, _, rfl, rfl, Q_bl (q _ ((Same.new htp).trans (Same.new htp2))) (decide_eq_true rfl).symm⟩
    | @lst av xv ds h1 a1 =>
      cases hu with
      | @lst au xu _ h2 a2 =>
      cases n with
      | zero => exact hd.elim
      | succ m =>
      obtain ⟨hlen, hds⟩ := hd
      have kv : Kind K H (.ref av) "list" := .lst h1
      have ku : Kind K H (.ref au) "list" := .lst h2
      refine ⟨_, rfl, rfl, _, rfl, ifF rfl ⟨_, rfl, rfl, _, rfl, ifF rfl ?_⟩⟩
      refine ⟨_, rfl, _, _, _, _, _, rfl, .ty _, ku.ty, ku.kit, _, rfl, ifF rfl ?_⟩
      refine ⟨_, rfl, _, _, _, _, _, rfl, .ty _, kv.ty, kv.kit, _, rfl, ifF rfl ?_⟩
      refine ⟨_, rfl, by show 2 ≤ sizeLine; decide, fun tp htp => ?_⟩
      have s1 := Same.new (o := .tup [.ty "int", .ty "str"]) htp
      have ku1 := ku.keep s1
      have kv1 := kv.keep s1
      refine ⟨_, tp, _, _, _, _, rfl, upd_same, .cons (.ty _) (.cons (.ty _) .nil), ku1.ty, ku1.kit2, _, rfl, ifF rfl ?_⟩
      refine ⟨_, rfl, _, _, _, _, _, rfl, .ty _, ku1.ty, ku1.kit, _, rfl, _, _, _, _, _, rfl, .ty _, kv1.ty, kv1.kit, rfl, _, rfl, ifF rfl ?_⟩
      refine ⟨_, rfl, _, _, _, _, _, rfl, .ty _, ku1.ty, ku1.kit, _, rfl, _, _, _, _, _, rfl, .ty _, kv1.ty, kv1.kit, rfl, _, rfl, ifF rfl ?_⟩
      have l1 := dpAll_len a1
      have l2 := dpAll_len a2
      refine ⟨_, rfl, _, _, rfl, .inl ⟨_, s1.seq h1, rfl⟩, _, rfl, _, _, rfl, .inl ⟨_, s1.seq h2, rfl⟩, rfl, _, rfl, ifF (by rw [l1, l2]; simp) ?_⟩
      refine ⟨_, rfl, _, rfl, av, au, xv, xu, rfl, .inl ⟨s1.seq h1, s1.seq h2, fun D hD => ?_⟩⟩
      refine lc_map (walk_zip (n := ds.length) (by rw [l1, l2, Nat.min_self])) (fun _ => V.bl true) (by omega) hD (fun H' s2 => ⟨(s1.trans s2).seq h1, (s1.trans s2).seq h2⟩) ?_ ?_
      · rintro i z H' H'' Q' Z hi s2 ⟨t, x, y, rfl, ht, rfl, hx, hy⟩ q'
        refine ⟨t, _, rfl, SqT.of upd_same, rfl, _, _, rfl, _, _, rfl, rfl, rfl, yesI ?_⟩
        obtain ⟨d, d1, d2, d3⟩ := same_zip (H := H) (K := K) (n := m) a1 a2 hds hx hy
        have s3 := (s1.trans s2).trans (Same.new (o := .tup [x, y]) ht)
        exact ⟨_, rfl, _, rfl, x, y, d, rfl, dp_keep s3 d1, dp_keep s3 d2, d3, fun H4 s4 => q' H4 ((Same.new ht).trans s4)⟩
      · intro H' s2 hD'
        refine ⟨D, _, rfl, .inl (SqL.of hD'), rfl, flat_trues _, ?_⟩
        refine Q_bl (q H' (s1.trans s2)) ?_
        rw [in_trues]
        rfl
    | @tup av xv ds h1 a1 =>
      cases hu with
      | @tup au xu _ h2 a2 =>
      cases n with
      | zero => exact hd.elim
      | succ m =>
      obtain ⟨hlen, hds⟩ := hd
      have kv : Kind K H (.ref av) "tuple" := .tup h1
      have ku : Kind K H (.ref au) "tuple" := .tup h2
      refine ⟨_, rfl, rfl, _, rfl, ifF rfl ⟨_, rfl, rfl, _, rfl, ifF rfl ?_⟩⟩
      refine ⟨_, rfl, _, _, _, _, _, rfl, .ty _, ku.ty, ku.kit, _, rfl, ifF rfl ?_⟩
      refine ⟨_, rfl, _, _, _, _, _, rfl, .ty _, kv.ty, kv.kit, _, rfl, ifF rfl ?_⟩
      refine ⟨_, rfl, by show 2 ≤ sizeLine; decide, fun tp htp => ?_⟩
      have s1 := Same.new (o := .tup [.ty "int", .ty "str"]) htp
      have ku1 := ku.keep s1
      have kv1 := kv.keep s1
      refine ⟨_, tp, _, _, _, _, rfl, upd_same, .cons (.ty _) (.cons (.ty _) .nil), ku1.ty, ku1.kit2, _, rfl, ifF rfl ?_⟩
      refine ⟨_, rfl, _, _, _, _, _, rfl, .ty _, ku1.ty, ku1.kit, _, rfl, _, _, _, _, _, rfl, .ty _, kv1.ty, kv1.kit, rfl, _, rfl, ifF rfl ?_⟩
      refine ⟨_, rfl, _, _, _, _, _, rfl, .ty _, ku1.ty, ku1.kit, _, rfl, _, _, _, _, _, rfl, .ty _, kv1.ty, kv1.kit, rfl, _, rfl, ifF rfl ?_⟩
      have l1 := dpAll_len a1
      have l2 := dpAll_len a2
      refine ⟨_, rfl, _, _, rfl, .inr ⟨_, s1.tup h1, rfl⟩, _, rfl, _, _, rfl, .inr ⟨_, s1.tup h2, rfl⟩, rfl, _, rfl, ifF (by rw [l1, l2]; simp) ?_⟩
      refine ⟨_, rfl, _, rfl, av, au, xv, xu, rfl, .inr ⟨s1.tup h1, s1.tup h2, fun D hD => ?_⟩⟩
      refine lc_map (walk_zipT (n := ds.length) (by rw [l1, l2, Nat.min_self])) (fun _ => V.bl true) (by omega) hD (fun H' s2 => ⟨(s1.trans s2).tup h1, (s1.trans s2).tup h2⟩) ?_ ?_
      · rintro i z H' H'' Q' Z hi s2 ⟨t, x, y, rfl, ht, rfl, hx, hy⟩ q'
        refine ⟨t, _, rfl, SqT.of upd_same, rfl, _, _, rfl, _, _, rfl, rfl, rfl, yesI ?_⟩
        obtain ⟨d, d1, d2, d3⟩ := same_zip (H := H) (K := K) (n := m) a1 a2 hds hx hy
        have s3 := (s1.trans s2).trans (Same.new (o := .tup [x, y]) ht)
        exact ⟨_, rfl, _, rfl, x, y, d, rfl, dp_keep s3 d1, dp_keep s3 d2, d3, fun H4 s4 => q' H4 ((Same.new ht).trans s4)⟩
      · intro H' s2 hD'
        refine ⟨D, _, rfl, .inl (SqL.of hD'), rfl, flat_trues _, ?_⟩
        refine Q_bl (q H' (s1.trans s2)) ?_
        rw [in_trues]
        rfl
theorem ok_law_same (T : Txt K mg) : FnOk P w K mg base CX0 12 T.f_law_same T.d_law_same ["found", "due"] (sp_law_same K 11) := by
  have step : ∀ n, FnOk P w K mg base CX0 (n + 1) T.f_law_same T.d_law_same ["found", "due"] (sp_law_same K n) := by
    intro n
    induction n with
    | zero => exact ok_law_same__rec T 0 0 ⟨fun _ _ _ _ h => h.elim, fun _ _ _ _ _ _ _ _ _ _ _ _ _ h => h.elim⟩
    | succ m ih => exact ok_law_same__rec T (m + 1) (m + 1) ih
  exact step 11

theorem ok_law_draw_near_field (T : Txt K mg) : FnOk P w K mg base CX0 5 T.f_law_draw_near_field T.d_law_draw_near_field ["pen"] (sp_near_field K) := by
  refine T.F_law_draw_near_field.ok sc_law_draw_near_field (fun vs H Q E h => ?_) (fun cdv A outer s H vs Q E hr h => ?_)
  · obtain ⟨p, c, n, rfl, _⟩ := h
    rfl
  · obtain ⟨p, c, n, rfl, hp, hn, q⟩ := h
    refine ⟨_, (pss_cons (ps_par (i := 1) (j := 2) rfl sc_law_draw_near_field.nd rfl rfl (by decide) rfl rfl (pa_cons (pe_lst (pa_cons pe_str (pa_cons pe_str (pa_cons pe_str (pa_cons pe_str (pa_cons pe_str pa_nil)))))) (pa_cons (pe_lst (pa_cons pe_str (pa_cons pe_str (pa_cons pe_str (pa_cons pe_str (pa_cons pe_str pa_nil)))))) pa_nil)) (by rfl))
      (pss_cons (ps_if (pt_cmpR op_eq (pe_call (ok_law_take T) (hr.mono (by decide)) rfl T.g_law_take T.F_law_take.kp T.b_law_take .nil pass0 (pa_cons (pv 0) (pa_cons pe_int pa_nil))) pe_int (nomark _)) (pss_one (ps_ret (pe_tup (pa_cons (pe_call (ok_law_draw_text T) (hr.mono (by decide)) rfl T.g_law_draw_text T.F_law_draw_text.kp T.b_law_draw_text .nil pass0 (pa_cons (pv 0) (pa_cons pe_int (pa_cons pe_int pa_nil)))) (pa_cons (pe_call (ok_law_draw_text T) (hr.mono (by decide)) rfl T.g_law_draw_text T.F_law_draw_text.kp T.b_law_draw_text .nil pass0 (pa_cons (pv 0) (pa_cons pe_int (pa_cons pe_int pa_nil)))) pa_nil))))) pss_nil)
      (pss_one (ps_ret (pe_tup (pa_cons (pe_call (ok_law_one_of T) (hr.mono (by decide)) rfl T.g_law_one_of T.F_law_one_of.kp T.b_law_one_of .nil pass0 (pa_cons (pv 0) (pa_cons (pv 1) pa_nil))) (pa_cons (pe_call (ok_law_one_of T) (hr.mono (by decide)) rfl T.g_law_one_of T.F_law_one_of.kp T.b_law_one_of .nil pass0 (pa_cons (pv 0) (pa_cons (pv 2) pa_nil))) pa_nil))))))), ?_⟩
    refine ⟨by show 5 ≤ sizeLine; decide, fun l1 hl1 => ⟨by show 5 ≤ sizeLine; decide, fun l2 hl2 => ⟨_, _, rfl, ?_⟩⟩⟩
    have hl2' : upd H l1 (.lst (nearNames.map V.str)) l2 = none := hl2
    have s1 := Same.new (o := .lst (nearNames.map V.str)) hl1
    have s2 := Same.new (o := .lst (nearVals.map V.str)) hl2'
    have g1 : upd (upd H l1 (.lst (nearNames.map V.str))) l2 (.lst (nearVals.map V.str)) l1 = some (.lst (nearNames.map V.str)) := s2 _ _ upd_same
    have g2 : upd (upd H l1 (.lst (nearNames.map V.str))) l2 (.lst (nearVals.map V.str)) l2 = some (.lst (nearVals.map V.str)) := upd_same
    have P2 := (hp.keep s1).keep s2
    have s12 := s1.trans s2
    have n1 : l1 ≠ p := Ne.symm (hp.ne hl1)
    have n2 : l2 ≠ p := Ne.symm ((hp.keep s1).ne hl2')
    show tSeq _ _ _ _ (upd (upd H l1 (.lst (nearNames.map V.str))) l2 (.lst (nearVals.map V.str)))
    generalize upd (upd H l1 (.lst (nearNames.map V.str))) l2 (.lst (nearVals.map V.str)) = H2 at g1 g2 P2 s12 ⊢
    refine ⟨_, rfl, p, c, n, 5, rfl, P2, by decide, by decide, by omega, fun r H3 h0 h1 d3 => ⟨rfl, _, rfl, ifb (fun _ => ?_) (fun _ => ?_)⟩⟩
    · refine ⟨_, rfl, p, c, n + 1, 1, 20, rfl, d3.pen, by omega, by decide, by decide, by decide, fun x H4 hx d4 => ?_⟩
      refine ⟨_, rfl, p, c, n + 1 + 50, 0, 40, rfl, d4.pen, by omega, by decide, by decide, by decide, fun y H5 hy d5 => ?_⟩
      refine ⟨by show 2 ≤ sizeLine; decide, fun t ht => ?_⟩
      exact q _ (x, y) _ ⟨t, rfl, SqT.of upd_same⟩ ⟨hx, hy⟩ ((Drew.pre s12 (((d3.trans d4).trans d5).keep (Same.new ht))).mono (by omega))
    · refine ⟨_, rfl, _, rfl, p, c, l1, n + 1, _, rfl, d3.pen, SqL.of (d3.but _ _ n1 g1), n1, by show nearNames.map V.str ≠ []; decide, by show 5 ≤ 1000; decide, by omega, fun x H4 hx d4 => ?_⟩
      obtain ⟨xs, hxs, rfl⟩ := List.mem_map.mp hx
      refine ⟨_, rfl, _, rfl, p, c, l2, n + 1 + 1, _, rfl, d4.pen, SqL.of (d4.but _ _ n2 (d3.but _ _ n2 g2)), n2, by show nearVals.map V.str ≠ []; decide, by show 5 ≤ 1000; decide, by omega, fun y H5 hy d5 => ?_⟩
      obtain ⟨ys, hys, rfl⟩ := List.mem_map.mp hy
      refine ⟨by show 2 ≤ sizeLine; decide, fun t ht => ?_⟩
      exact q _ (xs, ys) _ ⟨t, rfl, SqT.of upd_same⟩ ⟨List.all_eq_true.mp near_ok.1 _ hxs, List.all_eq_true.mp near_ok.2 _ hys⟩ ((Drew.pre s12 (((d3.trans d4).trans d5).keep (Same.new ht))).mono (by omega))
theorem ok_law_draw_setting (T : Txt K mg) : FnOk P w K mg base CX0 6 T.f_law_draw_setting T.d_law_draw_setting ["pen"] (sp_draw_setting K) := by
  refine T.F_law_draw_setting.ok sc_law_draw_setting (fun vs H Q E h => ?_) (fun cdv A outer s H vs Q E hr h => ?_)
  · obtain ⟨p, c, n, rfl, _⟩ := h
    rfl
  · obtain ⟨p, c, n, rfl, hp, hn, q⟩ := h
    refine ⟨_, (pss_cons (ps_set (i := 1) sc_law_draw_setting.nd rfl (Or.inl rfl) (pe_callTy call_tuple_of rfl T.z_tuple boot_tuple (pa_cons (pe_lc (own := [("again", 2)]) (g := (gName 2)) (tt := tYes)  rfl sc_law_draw_setting.nd (pi_range1 rfl T.z_range (pa_cons (pe_call (ok_law_one_of T) (hr.mono (by decide)) rfl T.g_law_one_of T.F_law_one_of.kp T.b_law_one_of .nil pass0 (pa_cons (pv 0) (pa_cons (pe_lst (pa_cons pe_int (pa_cons pe_int (pa_cons pe_int (pa_cons pe_int pa_nil))))) pa_nil))) pa_nil)) (blkOk_by (own := [("again", 2)]) (N := ["pen", "fixed", "again"]) (sc := defScope s_law_draw_setting) (by decide +kernel)) (fun _ _ _ _ _ => (pg_name (i := 2) sc_law_draw_setting.nd rfl (Or.inl rfl))) (fun _ _ _ _ _ => pts_nil) (fun _ _ _ _ _ => (pe_call (ok_law_draw_near_field T) (hr.mono (by decide)) rfl T.g_law_draw_near_field T.F_law_draw_near_field.kp T.b_law_draw_near_field .nil pass0 (pa_cons (pv 0) pa_nil)))) pa_nil)))
      (pss_one (ps_ret (pe_tup (pa_cons (pv 1) (pa_cons (pe_call (ok_law_one_of T) (hr.mono (by decide)) rfl T.g_law_one_of T.F_law_one_of.kp T.b_law_one_of .nil pass0 (pa_cons (pv 0) (pa_cons (pe_lst (pa_cons pe_int (pa_cons pe_int (pa_cons pe_int (pa_cons pe_int (pa_cons pe_int (pa_cons pe_int (pa_cons (pe_call (ok_law_take T) (hr.mono (by decide)) rfl T.g_law_take T.F_law_take.kp T.b_law_take .nil pass0 (pa_cons (pv 0) (pa_cons pe_int pa_nil))) pa_nil)))))))) pa_nil))) (pa_cons (pe_call (ok_law_take T) (hr.mono (by decide)) rfl T.g_law_take T.F_law_take.kp T.b_law_take .nil pass0 (pa_cons (pv 0) (pa_cons pe_int pa_nil))) pa_nil))))))), ?_⟩
    refine ⟨_, rfl, by show 4 ≤ sizeLine; decide, fun l hl => ?_⟩
    refine ⟨p, c, l, n, _, rfl, hp.new hl, SqL.of upd_same, Ne.symm (hp.ne hl), by simp, by show 4 ≤ 1000; decide, by omega, fun x H1 hx d1 => ?_⟩
    obtain ⟨z, rfl, hz0, hz1⟩ : ∃ z : Nat, x = .int (z : Nat) ∧ 0 ≤ z ∧ z ≤ 12 := by
      simp only [List.mem_cons, List.not_mem_nil, or_false] at hx
      rcases hx with h | h | h | h
      · exact ⟨0, h, by omega, by omega⟩
      · exact ⟨1, h, by omega, by omega⟩
      · exact ⟨3, h, by omega, by omega⟩
      · exact ⟨12, h, by omega, by omega⟩
    have D1 : Drew p c H H1 (n + 1) := ⟨d1.pen, (But.new hl).trans d1.but⟩
    refine ⟨_, rfl, by omega, by omega, fun C hC => ?_⟩
    rw [Int.toNat_natCast]
    refine lc_gen walk_range (fun i ys H' => Drew p c H1 H' (n + 1 + 110 * i) ∧ ∃ F, FdsV K H' ys F ∧ (∀ f ∈ F, FdOk f) ∧ F.length = i) (by omega) ⟨⟨(D1.pen.new hC).mono (by omega), But.new hC⟩, [], .nil, fun _ h => (nomatch h), rfl⟩ (fun _ _ _ _ => True.intro) ?_ ?_
    · rintro i ys x H' H'' Q' Z hi hly gC ⟨dr, F, hF, hok, hlF⟩ ⟨rfl, rfl⟩ q'
      have nCp : C ≠ p := Ne.symm (D1.pen.ne hC)
      have ncC := D1.pen.nec hC
      refine ⟨rfl, yesI ?_⟩
      refine ⟨_, rfl, p, c, _, rfl, dr.pen, by omega, fun v f H4 hv hf d4 => ?_⟩
      have gC4 := d4.but _ _ nCp gC
      have t4 := TS.drew dr.pen d4
      refine q' v H4 gC4 ⟨⟨(d4.pen.upd (Ne.symm nCp) ncC).mono (by omega), (dr.but.trans d4.but).put hC⟩, F ++ [f], p_app ((hF.ts t4).ts (TS.at gC4 nt_lst)) (.cons (hv.ts (TS.at gC4 nt_lst)) .nil), fun g hg => ?_, by rw [List.length_append, hlF]; rfl⟩
      rcases List.mem_append.mp hg with h | h
      · exact hok g h
      · rw [List.mem_singleton.mp h]; exact hf
    · rintro ys H2 hly gC ⟨dr, F, hF, hok, hlF⟩
      refine ⟨C, ys, rfl, .inl ⟨SqL.of gC, fun t ht => ?_⟩⟩
      have s3 := Same.new (o := .tup ys) ht
      have gt : upd H2 t (.tup ys) t = some (.tup ys) := upd_same
      have D3 := (D1.trans dr).keep s3
      have F3 := hF.ts (.of s3)
      generalize upd H2 t (.tup ys) = H3 at gt D3 F3 ⊢
      refine ⟨_, rfl, _, rfl, _, rfl, p, c, _, 121, rfl, D3.pen, by decide, by decide, by omega, fun r4 H4 h40 h41 d4 => ?_⟩
      refine ⟨by show 7 ≤ sizeLine; decide, fun l5 hl5 => ?_⟩
      refine ⟨p, c, l5, _, _, rfl, d4.pen.new hl5, SqL.of upd_same, Ne.symm (d4.pen.ne hl5), by simp, by show 7 ≤ 1000; decide, by omega, fun x H6 hx d6 => ?_⟩
      obtain ⟨rm, rfl, hrm⟩ : ∃ z : Nat, x = .int (z : Nat) ∧ z ≤ 120 := by
        simp only [List.mem_cons, List.not_mem_nil, or_false] at hx
        rcases hx with h | h | h | h | h | h | h
        · exact ⟨0, h, by omega⟩
        · exact ⟨20, h, by omega⟩
        · exact ⟨30, h, by omega⟩
        · exact ⟨60, h, by omega⟩
        · exact ⟨90, h, by omega⟩
        · exact ⟨120, h, by omega⟩
        · exact ⟨r4.toNat, by rw [h, Int.toNat_of_nonneg h40], by omega⟩
      refine ⟨_, rfl, p, c, _, 5, rfl, d6.pen, by decide, by decide, by omega, fun r7 H7 h70 h71 d7 => ?_⟩
      obtain ⟨w7, rfl⟩ : ∃ k : Nat, r7 = (k : Int) := ⟨r7.toNat, by omega⟩
      refine ⟨by show 3 ≤ sizeLine; decide, fun st hst => ?_⟩
      have D6 : Drew p c H3 H6 _ := ⟨d6.pen, d4.but.trans ((But.new hl5).trans d6.but)⟩
      have D7 := (D6.trans d7).keep (Same.new (o := .tup [.ref t, .int (rm : Nat), .int (w7 : Nat)]) hst)
      have t7 := TS.drew D3.pen D7
      refine q _ F rm w7 _ ⟨st, t, ys, rfl, SqT.of upd_same, t7.tup (SqT.of gt), F3.ts t7⟩ ⟨by omega, hok, hrm, by omega⟩ ((D3.trans D7).mono (by omega))
theorem ok_Table_leaving (T : Txt K mg) : FnOk P w K mg base CX0 2 T.f_Table_leaving T.d_Table_leaving ["self", "bound", "more"] (sp_leaving K T.C_Table) := by
  refine T.F_Table_leaving.ok sc_Table_leaving (fun vs H Q E h => ?_) (fun cdv A outer s H vs Q E hr h => ?_)
  · obtain ⟨a, D, sv, F, r, w, b, m, t, rfl, _⟩ := h
    rfl
  · obtain ⟨a, D, sv, F, r, w, b, m, t, rfl, hT, ok, hm, hb, q⟩ := h
    obtain ⟨dx, e⟩ := hT.ob
    have hDa := hT.ne
    obtain ⟨kvs, hD, hp⟩ := id hT.en
    have hkl := p_len hp
    have hl24 := ok.len
    refine ⟨_, (pss_cons (ps_set (i := 3) sc_Table_leaving.nd rfl (Or.inl rfl) (pe_op op_add (pv 2) (pe_callB (cr_sum rfl) rfl T.z_sum boot_sum (pa_cons (pe_lock (pe_lc (own := [("field", 4)]) (g := (gName 4)) (tt := tYes)  rfl sc_Table_leaving.nd (pi_values (pe_fld (pv 0) rfl)) (blkOk_by (own := [("field", 4)]) (N := ["self", "bound", "more", "total", "field", "numbers", "number"]) (sc := defScope s_Table_leaving) (by decide +kernel)) (fun _ _ _ _ _ => (pg_name (i := 4) sc_Table_leaving.nd rfl (Or.inl rfl))) (fun _ _ _ _ _ => pts_nil) (fun _ _ _ _ _ => (pe_call (ok_entry_size T) (hr.mono (by decide)) rfl T.g_entry_size T.F_entry_size.kp T.b_entry_size .nil pass0 (pa_cons (pv 4) pa_nil))))) pa_nil))))
      (pss_cons (ps_set (i := 5) sc_Table_leaving.nd rfl (Or.inl rfl) (pe_lst pa_nil))
      (pss_cons (ps_lock (ps_for PassesOwn.never rfl (pi_keys (pe_fld (pv 0) rfl)) (pg_name (i := 6) sc_Table_leaving.nd rfl (Or.inl rfl))
        (pss_cons (ps_if (pt_cmpR op_le (pv 3) (pv 1) (nomark _)) (pss_one ps_break) pss_nil)
      (pss_cons (ps_aug (i := 3) sc_Table_leaving.nd rfl (Or.inl rfl) (pe_call (ok_entry_size T) (hr.mono (by decide)) rfl T.g_entry_size T.F_entry_size.kp T.b_entry_size .nil pass0 (pa_cons (pe_dget (hu_of hr) (pe_fld (pv 0) rfl) (pv 6) (fun _ _ => rfl)) pa_nil)) ip_sub)
      (pss_one (ps_expr (pe_bm PySem.F.plainAttrs_list PySem.F.slot_list_append PySem.F.type_list_append mt_append (pv 5) (pa_cons (pv 6) pa_nil))))))))
      (pss_one (ps_ret (pv 5)))))), ?_⟩
    refine ⟨_, rfl, D, .dK kvs, hD, True.intro, fun od => ?_⟩
    have tl : TS H (upd H D (.frz od (.dK kvs))) := TS.at hD nt_dK
    have eL : upd H D (.frz od (.dK kvs)) a = some (.ins T.C_Table dx (tfs sv t D)) := by rw [upd_ne (Ne.symm hDa)]; exact e
    refine ⟨_, rfl, _, _, _, _, _, rfl, eL, T.cl_Table, T.nA_Table_kept, rfl, D, od, kvs, rfl, upd_same, fun C hC => ?_⟩
    have nDC : D ≠ C := fun z => by rw [← z, upd_same] at hC; cases hC
    refine lc_map walk_values (fun i => V.int ((fsz (t.es.getD i fd0).2 : Nat) : Int)) (by omega) hC (fun H' s1 => s1 _ _ upd_same) ?_ ?_
    · rintro i x H' H'' Q' Z hi s1 ⟨rfl, k, hk⟩ q'
      obtain ⟨en, he, hpe⟩ := p_at hp hk
      refine ⟨rfl, yesI ?_⟩
      refine ⟨_, rfl, x, en.2, rfl, hpe.2.ts (tl.trans (.of s1)), ok.fd _ (List.mem_of_getElem? he), ?_⟩
      have := q' H'' (Same.refl _)
      rw [getD_of fd0 he] at this
      exact this
    intro H1 s1 hC1
    have sU := unlock hD s1
    refine ⟨s1 _ _ upd_same, C, (List.range kvs.length).map fun i => ((fsz (t.es.getD i fd0).2 : Nat) : Int), rfl, SqL.of (by rw [upd_ne (Ne.symm nDC), hC1, List.map_map]; rfl), _, _, rfl, rfl, ?_⟩
    rw [hkl, sum_range]
    have gD1 : upd H1 D (.dK kvs) D = some (.dK kvs) := upd_same
    have e1 := sU _ _ e
    have hCH : (upd H1 D (.dK kvs)) C ≠ none := by rw [upd_ne (Ne.symm nDC), hC1]; exact fun z => nomatch z
    show tSeq _ _ _ _ (upd H1 D (.dK kvs))
    generalize upd H1 D (.dK kvs) = H2 at sU gD1 e1 ⊢
    have p2 := pmap (fun _ _ z => PrV.ts z (.of sU)) hp
    refine ⟨by show 0 ≤ sizeLine; decide, fun L hL => ?_⟩
    have hLH : H L = none := sU.free hL
    have sL := Same.new (o := .lst []) hL
    have gL : upd H2 L (.lst []) L = some (.lst []) := upd_same
    have gD3 := sL _ _ gD1
    have e3 := sL _ _ e1
    have s03 := sU.trans sL
    have nLD : L ≠ D := fun z => by rw [z, gD1] at hL; cases hL
    have nLa : L ≠ a := fun z => by rw [z, e1] at hL; cases hL
    show tSeq _ _ _ _ (upd H2 L (.lst []))
    generalize upd H2 L (.lst []) = H3 at gL gD3 e3 s03 sL ⊢
    refine ⟨D, .dK kvs, gD3, True.intro, fun od2 => ?_⟩
    have eL3 : upd H3 D (.frz od2 (.dK kvs)) a = some (.ins T.C_Table dx (tfs sv t D)) := by rw [upd_ne (Ne.symm hDa)]; exact e3
    refine ⟨_, rfl, _, _, _, _, _, rfl, eL3, T.cl_Table, T.nA_Table_kept, rfl, D, od2, rfl, .inl ⟨kvs, upd_same, ?_⟩⟩
    have fin : ∀ (H' : Hp) (i : Nat), i ≤ t.es.length → (∀ j, j < i → ¬ m + sumE (t.es.drop j) ≤ b) → (i = t.es.length ∨ m + sumE (t.es.drop i) ≤ b) → (∀ b o, b ≠ L → upd H3 D (.frz od2 (.dK kvs)) b = some o → H' b = some o) → H' L = some (.lst (eInts (t.es.take i))) → Q (.ref L) (upd H' D (.dK kvs)) := fun H' i h1 h2 h3 hk hL' => by
      refine q L _ hLH (fun c o ec => ?_) ?_
      · by_cases z : c = D
        · subst z; rw [upd_same]; rw [hD] at ec; exact ec
        · rw [upd_ne z]
          have nc : c ≠ L := fun z2 => by rw [z2, hLH] at ec; cases ec
          exact hk c o nc (by rw [upd_ne z]; exact s03 _ _ ec)
      · rw [upd_ne nLD, (gone_take t.es i h1 h2 h3).1]; exact hL'
    refine for_it walk_keys (fun i σ H' => ∃ (v6 : Option V), σ = [some (.ref a), some (.int (b : Nat)), some (.int (m : Nat)), some (.int ((m + sumE (t.es.drop i) : Nat) : Int)), none, some (.ref L), v6] ∧ H' D = some (.frz od2 (.dK kvs)) ∧ H' L = some (.lst (eInts (t.es.take i))) ∧ (∀ b o, b ≠ L → upd H3 D (.frz od2 (.dK kvs)) b = some o → H' b = some o) ∧ ∀ j, j < i → ¬ m + sumE (t.es.drop j) ≤ b) ⟨none, ?_, upd_same, by rw [upd_ne nLD]; exact gL, fun _ _ _ z => z, fun _ z => (nomatch z)⟩ (fun i σ H' _ ⟨_, _, z, _⟩ => z) ?_ ?_
    · have e0 : ((m : Int) + ((sumE t.es : Nat) : Int)) = ((m + sumE (t.es.drop 0) : Nat) : Int) := by rw [List.drop_zero]; omega
      rw [← e0]
      rfl
    · rintro i x σ H' H'' hi ⟨v6, rfl, gD', gL', hk, hj⟩ ⟨rfl, ky, v0, hkv, rfl⟩
      obtain ⟨en, he, hpe⟩ := p_at p2 hkv
      have hky : ky = nkey en.1 := hpe.1
      subst hky
      have hdr := drop_at he
      have hil := (List.getElem?_eq_some_iff.mp he).1
      refine ⟨_, rfl, _, rfl, _, _, rfl, rfl, _, rfl, ifb (fun h => ?_) (fun h => ?_)⟩
      · have h' : m + sumE (t.es.drop i) ≤ b := by have : (((m + sumE (t.es.drop i) : Nat) : Int)) ≤ (b : Nat) := of_decide_eq_true h; omega
        exact ⟨gD', _, rfl, fin _ i (by omega) hj (.inr h') hk gL'⟩
      · have h' : ¬ m + sumE (t.es.drop i) ≤ b := by have : ¬ (((m + sumE (t.es.drop i) : Nat) : Int)) ≤ (b : Nat) := of_decide_eq_false h; omega
        have eA := hk _ _ (Ne.symm nLa) eL3
        rcases look_get (n := en.1) p2 with ⟨_, h0⟩ | ⟨v, f, hv, hf, hfd⟩
        · obtain ⟨g, hg⟩ := look_has (es := t.es) (n := en.1) (f := en.2) (List.mem_of_getElem? he)
          rw [h0] at hg; cases hg
        have hfe : f = en.2 := by
          have h1 := (look_some_iff ok.nd).mpr (List.mem_of_getElem? he)
          rw [hf] at h1; exact Option.some.inj h1
        have tH : TS H2 H'' := ((TS.of sL).trans (TS.at gD3 nt_dK)).trans (fun c o tc ec => by
          by_cases z : c = L
          · subst z; rw [upd_ne nLD, gL] at ec; cases ec; exact absurd tc nt_lst
          · exact hk c o z ec)
        refine ⟨_, rfl, _, rfl, _, _, _, _, _, rfl, eA, T.cl_Table, T.nA_Table_kept, rfl, _, rfl, D, v, rfl, .inl ⟨kvs, nkey en.1, .inr ⟨od2, gD'⟩, rfl, hv.symm⟩, v, f, rfl, hfd.ts tH, ok.fd _ (look_mem hf), _, _, rfl, rfl, ?_⟩
        have gLn : (t.es.take i).length < 30 := by rw [List.length_take]; omega
        refine ⟨_, rfl, .inl ⟨rfl, _, SqL.of gL'⟩, _, rfl, L, _, _, rfl, rfl, gL', by unfold eInts; rw [List.length_map, sizeLine_eq]; omega, ?_⟩
        refine ⟨some (kV (nkey en.1)), ?_, by rw [upd_ne (Ne.symm nLD)]; exact gD', ?_, fun c o nc ec => by rw [upd_ne nc]; exact hk c o nc ec, fun j hj' => ?_⟩
        · have e9 : ((m + sumE (t.es.drop i) : Nat) : Int) - ((fsz f : Nat) : Int) = ((m + sumE (t.es.drop (i + 1)) : Nat) : Int) := by
            rw [hdr, sumE_cons, hfe]; omega
          rw [← e9]; rfl
        · rw [upd_same, List.take_add_one, he]
          unfold eInts
          rw [List.map_append]; rfl
        · rcases Nat.lt_or_ge j i with z | z
          · exact hj j z
          · have : j = i := by omega
            subst this; exact h'
    · rintro σ H' ⟨v6, rfl, gD', gL', hk, hj⟩
      rw [hkl] at gL' hj
      exact ⟨gD', _, rfl, fin _ t.es.length (Nat.le_refl _) hj (.inl rfl) hk gL'⟩

theorem ok_Table_set_bound (T : Txt K mg) : FnOk P w K mg base CX0 3 T.f_Table_set_bound T.d_Table_set_bound ["self", "bound"] (sp_set_bound K T.C_Table) := by
  refine T.F_Table_set_bound.ok sc_Table_set_bound (fun vs H Q E h => ?_) (fun cdv A outer s H vs Q E hr h => ?_)
  · obtain ⟨a, D, sv, F, r, w, n, t, rfl, _⟩ := h
    rfl
  · obtain ⟨a, D, sv, F, r, w, n, t, rfl, hT, ok, q1, q2⟩ := h
    obtain ⟨dx, e⟩ := hT.ob
    obtain ⟨sa, ft, fx, rfl, g1, g2, g3⟩ := id hT.st
    have hrm := ok.rm
    refine ⟨_, (pss_cons (ps_if (pt_cmpR op_gt (pv 1) (pe_ix ix_tup (pe_fld (pv 0) rfl) pe_int (fun _ _ => rfl)) (nomark _)) (pss_one (ps_ret pe_bl)) pss_nil)
      (pss_cons (ps_expr (pe_meth (pv 0) T.cl_Table T.m_Table_drop (ok_Table_drop T) (hr.mono (by decide)) T.b_Table_drop .nil pass0 (pa_cons (pe_meth (pv 0) T.cl_Table T.m_Table_leaving (ok_Table_leaving T) (hr.mono (by decide)) T.b_Table_leaving .nil pass0 (pa_cons (pv 1) (pa_cons pe_int pa_nil))) pa_nil)))
      (pss_cons (ps_fld (pv 0) (pv 1) rfl)
      (pss_one (ps_ret pe_bl))))), ?_⟩
    refine ⟨_, rfl, _, rfl, _, _, _, _, _, rfl, e, T.cl_Table, T.nA_Table_setting, rfl, _, _, _, _, rfl, rfl, g1, rfl, _, _, rfl, rfl, _, rfl, ifb (fun h => ?_) (fun h => ?_)⟩
    · exact q1 (by have : ((r : Nat) : Int) < (n : Nat) := by simpa using h
                   omega)
    have hn : n ≤ r := by
      have : ¬ ((r : Nat) : Int) < (n : Nat) := by simpa using h
      omega
    refine ⟨_, rfl, a, dx, _, rfl, e, rfl, _, rfl, a, dx, _, rfl, e, rfl, _, rfl, a, D, _, F, r, w, n, 0, t, rfl, hT, ok, by omega, by omega, fun L H1 hL s1 gL => ?_⟩
    refine ⟨a, D, L, _, F, r, w, n, 0, t, rfl, hT.same s1, ok, gL, fun H2 k2 hE2 => ?_⟩
    have e2 := k2 _ _ (by simpa using Ne.symm hT.ne) (s1 _ _ e)
    refine ⟨_, rfl, _, rfl, _, _, _, _, rfl, e2, T.cl_Table, T.nA_Table_bound, by show 4 < 1000; decide, ?_⟩
    have k3 : ButS [a, D] H (upd H2 a (.ins T.C_Table dx (tfs (.ref sa) ⟨n, t.made, keepE n 0 t.es⟩ D))) := ((ButS.of s1).trans (k2.mono (by simp))).trans (ButS.set (by simp))
    refine q2 hn _ k3 ⟨⟨dx, upd_same⟩, hE2.ts (TS.at e2 nt_ins) fun o eo => by rw [upd_ne hT.ne]; exact eo, hT.st.ts (k3.ts hT.nt)⟩
theorem ok_referred__z (T : Txt K mg) : FnOk P w K mg base CX0 1 T.f_referred T.d_referred ["fixed", "entries", "kind", "number"] (sp_referredZ K) := by
  refine T.F_referred.ok sc_referred (fun vs H Q E h => ?_) (fun cdv A outer s H vs Q E hr h => ?_)
  · obtain ⟨t, D, F, es, z, rfl, _⟩ := h
    rfl
  · obtain ⟨t, D, F, es, z, rfl, hT, q⟩ := h
    obtain ⟨kvs, hD, hp⟩ := hT.en
    refine ⟨_, (pss_cons (ps_if (pt_cmpR op_eq (pv 2) pe_str (nomark _)) (pss_one (ps_ret (pe_dget1 (hu_of hr) (pv 1) (pv 3) ⟨rfl, rfl, rfl, rfl⟩))) pss_nil)
      (pss_cons (ps_if (pt_cmpR op_lt (pv 3) (pe_callB call_len rfl T.z_len boot_len (pa_cons (pv 0) pa_nil)) (nomark _)) (pss_one (ps_ret (pe_ix ix_tup (pv 0) (pv 3) (fun _ _ => rfl)))) pss_nil)
      (pss_one (ps_ret pe_non)))), ?_⟩
    refine ⟨_, rfl, rfl, _, rfl, ifT (by decide) ?_⟩
    refine ⟨_, rfl, D, rfl, .inl ⟨kvs, .inl hD⟩, _, rfl, _, DGet.k (k := Sum.inl z) hD, ?_⟩
    rcases look_int (z := z) hp with ⟨h1, h2⟩ | ⟨v, f, h1, h2, h3⟩
    · rw [h1]; exact q _ (by rw [h2]; rfl)
    · rw [h1]; exact q _ (by rw [h2]; exact h3)
theorem ok_said_field__z (T : Txt K mg) : FnOk P w K mg base CX0 2 T.f_said_field T.d_said_field ["fixed", "entries", "line"] (sp_said_fieldZ K) := by
  refine T.F_said_field.ok sc_said_field (fun vs H Q E h => ?_) (fun cdv A outer s H vs Q E hr h => ?_)
  · obtain ⟨t, D, u, F, es, z, x, rfl, _⟩ := h
    rfl
  · obtain ⟨t, D, u, F, es, z, x, rfl, hT, hs, q⟩ := h
    have e32 : decide (V.int 3 = V.int 2) = false := by decide
    refine ⟨_, (pss_cons (ps_if (pt_cmpR op_eq (pe_ix ix_tup (pv 2) pe_int (fun _ _ => rfl)) pe_str (nomark _)) (pss_one (ps_ret (pe_tup (pa_cons (pe_ix ix_tup (pv 2) pe_int (fun _ _ => rfl)) (pa_cons (pe_ix ix_tup (pv 2) pe_int (fun _ _ => rfl)) pa_nil))))) pss_nil)
      (pss_cons (ps_set (i := 3) sc_said_field.nd rfl (Or.inl rfl) (pe_call (ok_referred__z T) (hr.mono (by decide)) rfl T.g_referred T.F_referred.kp T.b_referred .nil pass0 (pa_cons (pv 0) (pa_cons (pv 1) (pa_cons (pe_ix ix_tup (pv 2) pe_int (fun _ _ => rfl)) (pa_cons (pe_ix ix_tup (pv 2) pe_int (fun _ _ => rfl)) pa_nil))))))
      (pss_cons (ps_if (PW.pt (pw_or (pt_cmpR op_isN (pv 3) pe_non (nomark _)) (pw_or1 (pt_cmpR op_eq (pe_callB call_len rfl T.z_len boot_len (pa_cons (pv 2) pa_nil)) pe_int (nomark _))))) (pss_one (ps_ret (pv 3))) pss_nil)
      (pss_one (ps_ret (pe_tup (pa_cons (pe_ix ix_tup (pv 3) pe_int (fun _ _ => rfl)) (pa_cons (pe_ix ix_tup (pv 2) pe_int (fun _ _ => rfl)) pa_nil)))))))), ?_⟩
    refine ⟨_, rfl, _, _, _, _, rfl, rfl, hs, rfl, rfl, _, rfl, ifF (by decide) ?_⟩
    refine ⟨_, rfl, _, rfl, _, rfl, _, _, _, _, rfl, rfl, hs, rfl, _, rfl, _, _, _, _, rfl, rfl, hs, rfl, t, D, F, es, z, rfl, hT, fun v hv => ?_⟩
    cases hc : lookI es z with
    | none =>
      rw [hc] at hv q; cases (show v = .non from hv)
      exact ⟨_, rfl, rfl, _, rfl, ifT rfl ⟨_, rfl, q _ _ (Same.refl _) rfl⟩⟩
    | some f =>
      rw [hc] at hv q
      obtain ⟨b, rfl, hb⟩ := (show FdV K H v f from hv)
      refine ⟨_, rfl, rfl, _, rfl, ifF rfl ⟨_, rfl, _, _, rfl, .inr ⟨_, hs, rfl⟩, rfl, _, rfl, ifF e32 ?_⟩⟩
      refine ⟨_, rfl, _, _, _, _, rfl, rfl, hb, rfl, _, rfl, _, _, _, _, rfl, rfl, hs, rfl, by show 2 ≤ sizeLine; decide, fun p hp => ?_⟩
      exact q _ _ (Same.new hp) ⟨p, rfl, SqT.of upd_same⟩
theorem ok_said_field__b (T : Txt K mg) : FnOk P w K mg base CX0 2 T.f_said_field T.d_said_field ["fixed", "entries", "line"] (fun vs H Q E => sp_said_field K vs H Q E ∨ sp_said_fieldZ K vs H Q E) := FnOk_or (ok_said_field T) (ok_said_field__z T)
theorem ok_Table_inserted (T : Txt K mg) : FnOk P w K mg base CX0 3 T.f_Table_inserted T.d_Table_inserted ["self", "instruction"] (sp_inserted K T.C_Table) := by
  refine T.F_Table_inserted.ok sc_Table_inserted (fun vs H Q E h => ?_) (fun cdv A outer s H vs Q E hr h => ?_)
  · obtain ⟨a, D, sv, v, F, r, w, t, i, rfl, _⟩ := h
    rfl
  · obtain ⟨a, D, sv, v, F, r, w, t, i, rfl, hT, ⟨ia, rfl, hs⟩, hne, hl12, q⟩ := h
    obtain ⟨dx, e⟩ := hT.ob
    obtain ⟨sa, ft, fx, rfl, g1, g2, g3⟩ := id hT.st
    obtain ⟨kvs, hD, hp⟩ := id hT.en
    have hTab : TabV K H ft D F t.es := ⟨⟨fx, g2, g3⟩, hT.en⟩
    refine ⟨_, (pss_cons (ps_set (i := 2) sc_Table_inserted.nd rfl (Or.inl rfl) (pe_ix ix_tup (pv 1) pe_int (fun _ _ => rfl)))
      (pss_cons (ps_if (pt_cmpR op_eq (pv 2) pe_str (nomark _)) (pss_one (ps_ret (pe_tup (pa_cons (pe_ix ix_tup (pv 1) pe_int (fun _ _ => rfl)) (pa_cons (pe_ix ix_tup (pv 1) pe_int (fun _ _ => rfl)) pa_nil))))) pss_nil)
      (pss_cons (ps_if (pt_cmpR op_eq (pv 2) pe_str (nomark _)) (pss_one (ps_ret (pe_dget1 (hu_of hr) (pe_fld (pv 0) rfl) (pe_op op_sub (pe_op op_sub (pe_fld (pv 0) rfl) pe_int) (pe_ix ix_tup (pv 1) pe_int (fun _ _ => rfl))) ⟨rfl, rfl, rfl, rfl⟩))) pss_nil)
      (pss_cons (ps_set (i := 3) sc_Table_inserted.nd rfl (Or.inl rfl) (pe_ix ix_tup (pv 1) pe_int (fun _ _ => rfl)))
      (pss_cons (ps_if (pt_cmpR op_eq (pv 2) pe_str (nomark _)) (pss_one (ps_set (i := 3) sc_Table_inserted.nd rfl (Or.inl rfl) (pe_op op_sub (pe_op op_sub (pe_fld (pv 0) rfl) pe_int) (pv 3)))) pss_nil)
      (pss_one (ps_ret (pe_call (ok_said_field__b T) (hr.mono (by decide)) rfl T.g_said_field T.F_said_field.kp T.b_said_field .nil pass0 (pa_cons (pe_ix ix_tup (pe_fld (pv 0) rfl) pe_int (fun _ _ => rfl)) (pa_cons (pe_fld (pv 0) rfl) (pa_cons (pe_tup (pa_cons (pv 2) (pa_cons (pv 3) (pa_cons (pe_ix ix_tup (pv 1) pe_int (fun _ _ => rfl)) pa_nil)))) pa_nil))))))))))), ?_⟩
    cases i with
    | limit n => exact absurd rfl (hne n)
    | new y x =>
      refine ⟨_, rfl, _, _, _, _, rfl, rfl, hs, rfl, _, rfl, rfl, _, rfl, ifT (by decide) ?_⟩
      refine ⟨_, rfl, _, _, _, _, rfl, rfl, hs, rfl, _, rfl, _, _, _, _, rfl, rfl, hs, rfl, by show 2 ≤ sizeLine; decide, fun p hp => ?_⟩
      exact q _ _ (Same.new hp) ⟨p, rfl, SqT.of upd_same⟩
    | again n =>
      refine ⟨_, rfl, _, _, _, _, rfl, rfl, hs, rfl, _, rfl, rfl, _, rfl, ifF (by decide) ⟨_, rfl, rfl, _, rfl, ifT (by decide) ?_⟩⟩
      refine ⟨_, rfl, _, _, _, _, _, rfl, e, T.cl_Table, T.nA_Table_kept, rfl, D, rfl, .inl ⟨kvs, .inl hD⟩, _, rfl, _, _, _, _, _, rfl, e, T.cl_Table, T.nA_Table_made, rfl, _, _, rfl, rfl, _, rfl, _, _, _, _, rfl, rfl, hs, rfl, _, _, rfl, rfl, _, DGet.k (k := Sum.inl ((t.made : Int) - 1 - (n : Int))) hD, ?_⟩
      rcases look_int (z := (t.made : Int) - 1 - (n : Int)) hp with ⟨h1, h2⟩ | ⟨v, f, h1, h2, h3⟩
      · rw [h1]; exact q _ _ (Same.refl _) (by show OFd K H _ (lookI _ _); rw [h2]; rfl)
      · rw [h1]; exact q _ _ (Same.refl _) (by show OFd K H _ (lookI _ _); rw [h2]; exact h3)
    | fixed n x =>
      refine ⟨_, rfl, _, _, _, _, rfl, rfl, hs, rfl, _, rfl, rfl, _, rfl, ifF (by decide) ⟨_, rfl, rfl, _, rfl, ifF (by decide) ?_⟩⟩
      refine ⟨_, rfl, _, _, _, _, rfl, rfl, hs, rfl, _, rfl, rfl, _, rfl, ifF (by decide) ?_⟩
      refine ⟨_, rfl, _, _, _, _, _, rfl, e, T.cl_Table, T.nA_Table_setting, rfl, _, _, _, _, rfl, rfl, g1, rfl, _, rfl, _, _, _, _, _, rfl, e, T.cl_Table, T.nA_Table_kept, rfl, _, rfl, _, rfl, _, rfl, _, _, _, _, rfl, rfl, hs, rfl, by show 3 ≤ sizeLine; decide, fun p hp => ?_⟩
      have sp := Same.new (o := .tup [.str "fixed", .int (n : Nat), .str x]) hp
      refine .inl ⟨ft, D, F, t.es, .ref p, .fix2 n x, rfl, hTab.same sp, ⟨p, rfl, SqT.of upd_same⟩, fun u H1 s1 hu => q u H1 (sp.trans s1) hu⟩
    | entry n x =>
      refine ⟨_, rfl, _, _, _, _, rfl, rfl, hs, rfl, _, rfl, rfl, _, rfl, ifF (by decide) ⟨_, rfl, rfl, _, rfl, ifF (by decide) ?_⟩⟩
      refine ⟨_, rfl, _, _, _, _, rfl, rfl, hs, rfl, _, rfl, rfl, _, rfl, ifT (by decide) ?_⟩
      refine ⟨_, rfl, _, _, _, _, _, rfl, e, T.cl_Table, T.nA_Table_made, rfl, _, _, rfl, rfl, _, rfl, _, _, rfl, rfl, ?_⟩
      refine ⟨_, rfl, _, _, _, _, _, rfl, e, T.cl_Table, T.nA_Table_setting, rfl, _, _, _, _, rfl, rfl, g1, rfl, _, rfl, _, _, _, _, _, rfl, e, T.cl_Table, T.nA_Table_kept, rfl, _, rfl, _, rfl, _, rfl, _, _, _, _, rfl, rfl, hs, rfl, by show 3 ≤ sizeLine; decide, fun p hp => ?_⟩
      have sp := Same.new (o := .tup [.str "entry", .int ((t.made : Int) - 1 - (n : Int)), .str x]) hp
      exact .inr ⟨ft, D, p, F, t.es, (t.made : Int) - 1 - (n : Int), x, rfl, hTab.same sp, SqT.of upd_same, fun u H1 s1 hu => q u H1 (sp.trans s1) hu⟩
theorem ok_Table_carry_out (T : Txt K mg) : FnOk P w K mg base CX0 4 T.f_Table_carry_out T.d_Table_carry_out ["self", "instruction"] (sp_carry_out K T.C_Table) := by
  refine T.F_Table_carry_out.ok sc_Table_carry_out (fun vs H Q E h => ?_) (fun cdv A outer s H vs Q E hr h => ?_)
  · obtain ⟨a, D, sv, v, F, r, w, t, i, rfl, _⟩ := h
    rfl
  · obtain ⟨a, D, sv, v, F, r, w, t, i, rfl, hT, ok, okS, hi, oki, q1, q2⟩ := h
    obtain ⟨dx, e⟩ := hT.ob
    refine ⟨_, (pss_cons (ps_if (pt_cmpR op_eq (pe_ix ix_tup (pv 1) pe_int (fun _ _ => rfl)) pe_str (nomark _)) (pss_one (ps_ret (pe_meth (pv 0) T.cl_Table T.m_Table_set_bound (ok_Table_set_bound T) (hr.mono (by decide)) T.b_Table_set_bound .nil pass0 (pa_cons (pe_ix ix_tup (pv 1) pe_int (fun _ _ => rfl)) pa_nil)))) pss_nil)
      (pss_cons (ps_set (i := 2) sc_Table_carry_out.nd rfl (Or.inl rfl) (pe_meth (pv 0) T.cl_Table T.m_Table_inserted (ok_Table_inserted T) (hr.mono (by decide)) T.b_Table_inserted .nil pass0 (pa_cons (pv 1) pa_nil)))
      (pss_cons (ps_if (PW.pt (pw_or (pt_cmpR op_isN (pv 2) pe_non (nomark _)) (pw_or1 (pt_not (pt_val (pe_meth (pv 0) T.cl_Table T.m_Table_has_room (ok_Table_has_room T) (hr.mono (by decide)) T.b_Table_has_room .nil pass0 (pa_cons (pv 2) pa_nil))))))) (pss_one (ps_ret pe_bl)) pss_nil)
      (pss_cons (ps_expr (pe_meth (pv 0) T.cl_Table T.m_Table_drop (ok_Table_drop T) (hr.mono (by decide)) T.b_Table_drop .nil pass0 (pa_cons (pe_meth (pv 0) T.cl_Table T.m_Table_leaving (ok_Table_leaving T) (hr.mono (by decide)) T.b_Table_leaving .nil pass0 (pa_cons (pe_fld (pv 0) rfl) (pa_cons (pe_call (ok_entry_size T) (hr.mono (by decide)) rfl T.g_entry_size T.F_entry_size.kp T.b_entry_size .nil pass0 (pa_cons (pv 2) pa_nil)) pa_nil))) pa_nil)))
      (pss_cons (ps_dput (hu_of hr) (pe_fld (pv 0) rfl) (pe_fld (pv 0) rfl) (pv 2) rfl)
      (pss_cons (ps_fldaug (pv 0) pe_int in_add)
      (pss_one (ps_ret pe_bl)))))))), ?_⟩
    by_cases hlim : ∃ n, i = .limit n
    · obtain ⟨n, rfl⟩ := hlim
      obtain ⟨ia, rfl, hs⟩ := id hi
      refine ⟨_, rfl, _, _, _, _, rfl, rfl, hs, rfl, rfl, _, rfl, ifT (by decide) ?_⟩
      refine ⟨_, rfl, a, dx, _, rfl, e, rfl, _, rfl, _, _, _, _, rfl, rfl, hs, rfl, a, D, sv, F, r, w, n, t, rfl, hT, ok, fun hn => ?_, fun hn H' k' hT' => ?_⟩
      · exact q1 (by show (if n ≤ r then _ else none) = none; rw [if_neg hn]) H (Same.refl _)
      · exact q2 _ (by show (if n ≤ r then _ else none) = _; rw [if_pos hn]) H' k' hT'
    have hne : ∀ n, i ≠ .limit n := fun n z => hlim ⟨n, z⟩
    obtain ⟨ia, rfl, hs⟩ := id hi
    have hstep := step_no (F := F) (r := r) (t := t) hne
    refine ⟨_, rfl, _, _, _, _, rfl, rfl, hs, kd_at i, rfl, _, rfl, ifF (kd_no hne) ?_⟩
    refine ⟨_, rfl, a, dx, _, rfl, e, rfl, _, rfl, a, D, sv, .ref ia, F, r, w, t, i, rfl, hT, hi, hne, okS.len, fun u H1 s1 hu => ?_⟩
    have e1 := s1 _ _ e
    have hT1 := hT.same s1
    cases hf : insF F t i with
    | none =>
      rw [hf] at hu hstep
      cases (show u = .non from hu)
      exact ⟨_, rfl, rfl, _, rfl, ifT rfl (q1 hstep H1 s1)⟩
    | some f =>
      rw [hf] at hu hstep
      have fok := insF_ok okS.fd ok oki hf
      have hfd : FdV K H1 u f := hu
      obtain ⟨fa, rfl, hfa⟩ := id hfd
      refine ⟨_, rfl, rfl, _, rfl, ifF rfl ?_⟩
      refine ⟨_, rfl, a, dx, _, rfl, e1, rfl, _, rfl, a, D, sv, .ref fa, F, r, w, t, f, rfl, hT1, hfd, fok, ⟨_, rfl, ?_⟩⟩
      cases hr' : roomT t f with
      | false =>
        simp only [hr', Bool.false_eq_true, if_false] at hstep
        exact ifT rfl (q1 hstep H1 s1)
      | true =>
        simp only [hr', if_true] at hstep
        have hz := fsz_ge fok
        have hbd := ok.bd
        have hrm := ok.rm
        refine ifF rfl ?_
        refine ⟨_, rfl, a, dx, _, rfl, e1, rfl, _, rfl, a, dx, _, rfl, e1, rfl, _, rfl, _, _, _, _, _, rfl, e1, T.cl_Table, T.nA_Table_bound, rfl, _, rfl, .ref fa, f, rfl, hfd, fok, a, D, sv, F, r, w, t.bound, fsz f, t, rfl, hT1, ok, by omega, by omega, fun L H2 hL s2 gL => ?_⟩
        have hT2 := hT1.same s2
        refine ⟨a, D, L, sv, F, r, w, t.bound, fsz f, t, rfl, hT2, ok, gL, fun H3 k3 hE3 => ?_⟩
        have e3 := k3 _ _ (by simpa using Ne.symm hT.ne) (s2 _ _ e1)
        obtain ⟨kv3, hD3, hp3⟩ := id hE3
        have hkl := p_len hp3
        have hkl2 := (keep_sub t.bound (fsz f) t.es).length_le
        have hl24 := ok.len
        refine ⟨_, rfl, _, rfl, _, _, _, _, _, rfl, e3, T.cl_Table, T.nA_Table_kept, rfl, _, rfl, _, _, _, _, _, rfl, e3, T.cl_Table, T.nA_Table_made, rfl, D, _, rfl, .inl ⟨kv3, nkey t.made, hD3, rfl, by rw [sizeLine_eq]; omega, rfl⟩, ?_⟩
        have e4 : upd H3 D (.dK (putK kv3 (nkey t.made) (.ref fa))) a = some (.ins T.C_Table dx (tfs sv t D)) := by rw [upd_ne (Ne.symm hT.ne)]; exact e3
        refine ⟨_, rfl, _, _, _, _, _, rfl, e4, T.cl_Table, T.nA_Table_made, rfl, _, _, rfl, rfl, _, _, e4, by show 4 < 1000; decide, ?_⟩
        have k13 : ButS [a, D] H H3 := (ButS.of (s1.trans s2)).trans (k3.mono (by simp))
        have kAll : ButS [a, D] H (upd (upd H3 D (.dK (putK kv3 (nkey t.made) (.ref fa)))) a (.ins T.C_Table dx (tfs sv (putT t f) D))) := (k13.trans (ButS.set (by simp))).trans (ButS.set (by simp))
        have t13 : TS H1 H3 := by
          have kk : ButS [a, D] H1 H3 := (ButS.of s2).trans (k3.mono (by simp))
          exact kk.ts hT1.nt
        have tD : TS H3 (upd H3 D (.dK (putK kv3 (nkey t.made) (.ref fa)))) := TS.at hD3 nt_dK
        have tA : TS (upd H3 D (.dK (putK kv3 (nkey t.made) (.ref fa)))) (upd (upd H3 D (.dK (putK kv3 (nkey t.made) (.ref fa)))) a (.ins T.C_Table dx (tfs sv (putT t f) D))) := TS.at e4 nt_ins
        have hne2 : putE (keepE t.bound (fsz f) t.es) t.made f = keepE t.bound (fsz f) t.es ++ [(t.made, f)] := putE_new (keep_ok (b := t.bound) (m := fsz f) ok).2.1
        have hput := put_get (n := t.made) hp3 (hfd.ts t13)
        rw [hne2] at hput
        refine q2 _ hstep _ kAll ⟨⟨dx, upd_same⟩, ⟨_, by rw [upd_ne hT.ne]; exact upd_same, pmap (fun _ _ z => (z.ts tD).ts tA) hput⟩, hT.st.ts (kAll.ts hT.nt)⟩
theorem ok_run_table (T : Txt K mg) : FnOk P w K mg base (CX P w) 7 T.f_run_table T.d_run_table ["setting", "instructions"] (sp_run_table K T.C_BadTable) := by
  refine T.F_run_table.okX sc_run_table (fun vs H Q E h => ?_) (fun cdv A outer s H vs Q E hr h => ?_)
  · obtain ⟨sv, L, F, r, w, xs, is, rfl, _⟩ := h
    rfl
  · obtain ⟨sv, L, F, r, w, xs, is, rfl, hS, okS, hL, hi, oki, hlen, q⟩ := h
    refine ⟨_, (pss_cons (ps_expr (pe_call (ok_check_setting T) (hr.mono (by decide)) rfl T.g_check_setting T.F_check_setting.kp T.b_check_setting .nil (passes_call (takes_of rfl rfl rfl rfl) (fun _ _ _ _ h => h)) (pa_cons (pv 0) pa_nil)))
      (pss_cons (ps_if (PW.pt (pw_or (pt_not (pt_val (pe_callB call_isi rfl T.z_isinstance boot_isinstance (pa_cons (pv 1) (pa_cons (pe_bltn (v := .ty "list") rfl T.z_list boot_list rfl) pa_nil))))) (pw_or1 (pt_not (pt_val (pe_callB (cr_all rfl) rfl T.z_all boot_all (pa_cons (pe_lc (own := [("thing", 2)]) (g := (gName 2)) (tt := tYes)  rfl sc_run_table.nd (pi_list (pv 1)) (blkOk_by (own := [("thing", 2)]) (N := ["setting", "instructions", "thing", "table", "number", "instruction"]) (sc := defScope s_run_table) (by decide +kernel)) (fun _ _ _ _ _ => (pg_name (i := 2) sc_run_table.nd rfl (Or.inl rfl))) (fun _ _ _ _ _ => pts_nil) (fun _ _ _ _ _ => (pe_call (ok_is_instruction T) (hr.mono (by decide)) rfl T.g_is_instruction T.F_is_instruction.kp T.b_is_instruction .nil pass0 (pa_cons (pv 2) pa_nil)))) pa_nil))))))) (pss_one (ps_raise rfl (takes_of rfl rfl rfl rfl) (pmk_own PySem.F.excBase_ValueError T.P_NoValue.x_ T.P_NoValue.g T.P_NoValue.k_ (raises_own T.P_NoValue.b_ T.P_NoValue.t_) rfl))) pss_nil)
      (pss_cons (ps_set (i := 3) sc_run_table.nd rfl (Or.inl rfl) (pe_make T.M_Table (ok_Table_init T) (hr.mono (by decide)) rfl T.g_Table T.b_Table_init .nil pass0 (pa_cons (pv 0) pa_nil)))
      (pss_cons (ps_for (passes_of rfl) rfl (pi_enum rfl T.z_enumerate (pa_cons (pv 1) pa_nil)) (pg_tup rfl (pgs_cons (pg_name (i := 4) sc_run_table.nd rfl (Or.inl rfl)) (pgs_cons (pg_name (i := 5) sc_run_table.nd rfl (Or.inl rfl)) pgs_nil)))
        (pss_one (ps_if (pt_not (pt_val (pe_meth (pv 3) T.cl_Table T.m_Table_carry_out (ok_Table_carry_out T) (hr.mono (by decide)) T.b_Table_carry_out .nil pass0 (pa_cons (pv 5) pa_nil)))) (pss_one (ps_raiseE rfl T.E_BadTable (ok_BadTable_init T) (hr.mono (by decide)) T.b_BadTable_init pass0 (takes_of rfl rfl rfl rfl) rfl (pa_cons (pv 4) pa_nil))) pss_nil)))
      (pss_one (ps_ret (pe_tup (pa_cons (pe_fld (pv 3) rfl) (pa_cons (pe_fld (pv 3) rfl) pa_nil))))))))), ?_⟩
    have hxl := p_len hi
    refine ⟨_, rfl, sv, F, r, w, rfl, hS, okS, fun H1 s1 => ?_⟩
    have hL1 := s1.seq hL
    have k1 : Kind K H1 (.ref L) "list" := .lst hL1
    have hi1 := hi.ts (.of s1)
    refine ⟨_, rfl, _, _, _, _, _, rfl, .ty _, k1.ty, k1.kit, _, rfl, ifF rfl ?_⟩
    refine ⟨_, rfl, L, rfl, ⟨xs, hL1⟩, fun C hC => ?_⟩
    refine lc_map (walk_list (xs := xs)) (fun _ => V.bl true) (by omega) hC (fun H' s' => s'.seq hL1) ?_ ?_
    · rintro j x H' H'' Q' Z hj s' ⟨rfl, hx⟩ q'
      obtain ⟨i, hi2, hiv⟩ := p_at hi1 hx
      exact ⟨rfl, yesI ⟨_, rfl, x, i, rfl, hiv.ts (.of s'), oki i (List.mem_of_getElem? hi2), fun H4 s4 => q' H4 s4⟩⟩
    intro H2 s2 hC2
    refine ⟨C, (List.range xs.length).map fun _ => true, rfl, .inl (.inl (by rw [hC2, List.map_map]; rfl)), _, rfl, ?_⟩
    rw [List.all_map, show (List.range xs.length).all (id ∘ fun _ => true) = true from List.all_eq_true.mpr fun _ _ => rfl]
    refine ifF rfl ?_
    have s02 := s1.trans s2
    refine ⟨_, rfl, fun x dx hx hdx hne => ?_⟩
    have sN : Same H2 (upd (upd H2 dx (.own x)) x (.ins T.C_Table dx [])) := (Same.new hdx).trans (Same.new (by rw [upd_ne (Ne.symm hne)]; exact hx))
    refine ⟨x, T.C_Table, dx, sv, F, r, w, rfl, upd_same, T.cl_Table, T.nA_Table_setting, T.nA_Table_bound, T.nA_Table_made, T.nA_Table_kept, hS.ts (.of (s02.trans sN)), fun D H3 hDx hD ho gx gD => ⟨rfl, ?_⟩⟩
    have hD2 : H2 D = none := by
      rw [upd_ne hDx] at hD
      by_cases z : D = dx
      · subst z; rw [upd_same] at hD; cases hD
      · rw [upd_ne z] at hD; exact hD
    have s23 : Same H2 H3 := fun b o eb => by
      have n1 : b ≠ x := ne_of_none eb hx
      have n2 : b ≠ D := ne_of_none eb hD2
      rw [ho b n1 n2]; exact sN b o eb
    have s03 := s02.trans s23
    have hT3 : TblV K T.C_Table H3 x D sv F r w (tb0 r) := ⟨⟨dx, gx⟩, ⟨[], gD, .nil⟩, hS.ts (.of s03)⟩
    have hxH : H x = none := s02.free hx
    have hDH : H D = none := s02.free hD2
    refine ⟨_, rfl, L, xs, rfl, s03.seq hL, ?_⟩
    refine for_it (walk_enum (K := K) (a := L) (xs := xs)) (fun j σ H' => ∃ (v2 v4 v5 : Option V) (t : Tb), σ = [some sv, some (.ref L), v2, some (.ref x), v4, v5] ∧ Same H H' ∧ TblV K T.C_Table H' x D sv F r w t ∧ TbOk r t ∧ runT F r (tb0 r) 0 is = runT F r t j (is.drop j)) ⟨_, _, _, tb0 r, rfl, s03, hT3, tb0_ok okS.r, rfl⟩ (fun j σ H' _ ⟨_, _, _, _, _, s', _⟩ => s'.seq hL) ?_ ?_
    · rintro j y σ H4 H4' hj ⟨v2, v4, v5, t, rfl, s4, hT4, ok4, hrun⟩ ⟨tp, z1, z2, rfl, htp, rfl, e1, e2⟩
      cases e1
      obtain ⟨i, hi2, hiv⟩ := p_at hi e2
      have oki2 := oki i (List.mem_of_getElem? hi2)
      have st := Same.new (o := .tup [.int (j : Nat), z2]) htp
      have hT5 := hT4.same st
      have s5 := s4.trans st
      refine ⟨tp, _, rfl, SqT.of upd_same, rfl, _, _, rfl, _, _, rfl, rfl, ?_⟩
      obtain ⟨dx5, e5⟩ := hT5.ob
      have hdr : is.drop j = i :: is.drop (j + 1) := by
        obtain ⟨hlt, he⟩ := List.getElem?_eq_some_iff.mp hi2
        rw [List.drop_eq_getElem_cons hlt, he]
      have hj1000 : j < 1000 := by have := (List.getElem?_eq_some_iff.mp hi2).1; omega
      refine ⟨_, rfl, x, dx5, _, rfl, e5, rfl, _, rfl, x, D, sv, z2, F, r, w, t, i, rfl, hT5, ok4, okS, hiv.ts (.of s5), oki2, fun hno H6 s6 => ⟨_, rfl, ifT rfl ?_⟩, fun t' hyes H6 k6 hT6 => ⟨_, rfl, ifF rfl ?_⟩⟩
      · rw [hdr, runT, hno] at hrun
        rw [hrun] at q
        refine ⟨_, rfl, err_go (k := (j : Nat)) (by have h3 : (1000 : Nat) < 2 ^ 1000 := by decide +kernel
                                                    rw [Int.natAbs_natCast]; omega) fun d H7 s7 _ h7 => ?_⟩
        exact q d H7 ((s5.trans s6).trans s7) h7
      · rw [hdr, runT, hyes] at hrun
        refine ⟨_, _, _, t', rfl, fun b o eb => ?_, hT6, ok4.step okS.fd oki2 hyes, hrun⟩
        have n1 : b ≠ x := ne_of_none eb hxH
        have n2 : b ≠ D := ne_of_none eb hDH
        exact k6 b o (by simp [n1, n2]) (s5 b o eb)
    · rintro σ H4 ⟨v2, v4, v5, t, rfl, s4, hT4, ok4, hrun⟩
      rw [List.drop_of_length_le (by omega), runT] at hrun
      rw [hrun] at q
      obtain ⟨dx4, e4⟩ := hT4.ob
      refine ⟨_, rfl, _, _, _, _, _, rfl, e4, T.cl_Table, T.nA_Table_made, rfl, _, rfl, _, _, _, _, _, rfl, e4, T.cl_Table, T.nA_Table_kept, rfl, by show 2 ≤ sizeLine; decide, fun p hp => ?_⟩
      exact q D p _ hDH (s4.free hp) (s4.trans (Same.new hp)) upd_same (hT4.en.same (Same.new hp))

theorem ok_law_size (T : Txt K mg) : FnOk P w K mg base CX0 1 T.f_law_size T.d_law_size ["field"] (sp_law_size K) := by
  refine T.F_law_size.ok sc_law_size (fun vs H Q E h => ?_) (fun cdv A outer s H vs Q E hr h => ?_)
  · obtain ⟨v, f, rfl, _⟩ := h
    rfl
  · obtain ⟨v, f, rfl, ⟨a, rfl, hs⟩, hf, q⟩ := h
    refine ⟨_, (pss_one (ps_ret (pe_op op_add (pe_op op_add (pe_callB call_len rfl T.z_len boot_len (pa_cons (pe_ix ix_tup (pv 0) pe_int (fun _ _ => rfl)) pa_nil)) (pe_callB call_len rfl T.z_len boot_len (pa_cons (pe_ix ix_tup (pv 0) pe_int (fun _ _ => rfl)) pa_nil))) pe_int))), ?_⟩
    have z := fsz_ge hf
    have e : (f.1.length + f.2.length + 4) = fsz f := rfl
    refine ⟨_, rfl, _, _, _, _, rfl, rfl, hs, rfl, _, _, rfl, ⟨len100 (by omega), rfl⟩, _, rfl, _, _, _, _, rfl, rfl, hs, rfl, _, _, rfl, ⟨len100 (by omega), rfl⟩, _, _, rfl, rfl, _, _, rfl, rfl, ?_⟩
    exact Q_int q (by omega)
theorem ok_law_without_old (T : Txt K mg) : FnOk P w K mg base CX0 2 T.f_law_without_old T.d_law_without_old ["entries", "bound", "more"] (sp_without_old K) := by
  refine T.F_law_without_old.ok sc_law_without_old (fun vs H Q E h => ?_) (fun cdv A outer s H vs Q E hr h => ?_)
  · obtain ⟨D, es, b, m, rfl, _⟩ := h
    rfl
  · obtain ⟨D, es, b, m, rfl, hE, asc, q⟩ := h
    obtain ⟨kvs, hD, hp⟩ := id hE
    have hkl := p_len hp
    have hl60 := asc.len
    have nd := keys_nd hp asc.nd
    refine ⟨_, (pss_cons (ps_set (i := 3) sc_law_without_old.nd rfl (Or.inr rfl) (pe_callTy (call_dictP rfl) rfl T.z_dict boot_dict (pa_cons (pe_lock (pe_lc (own := [("number", 4)]) (g := (gName 4)) (tt := tYes)  rfl sc_law_without_old.nd (pi_keys (pv 0)) (blkOk_by (own := [("number", 4)]) (N := ["entries", "bound", "more", "found", "number", "one"]) (sc := defScope s_law_without_old) (by decide +kernel)) (fun _ _ _ _ _ => (pg_name (i := 4) sc_law_without_old.nd rfl (Or.inl rfl))) (fun _ _ _ _ _ => pts_nil) (fun _ _ _ _ _ => (pe_tup (pa_cons (pv 4) (pa_cons (pe_dget (hu_of hr) (pv 0) (pv 4) (fun _ _ => rfl)) pa_nil)))))) pa_nil)))
      (pss_cons (ps_for PassesOwn.never rfl (pi_list (pe_callB (call_sortedDI rfl) rfl T.z_sorted boot_sorted (pa_cons (pv 0) pa_nil))) (pg_name (i := 4) sc_law_without_old.nd rfl (Or.inl rfl))
        (pss_one (ps_if (pt_cmpR op_gt (pe_op op_add (pe_callB (cr_sum rfl) rfl T.z_sum boot_sum (pa_cons (pe_lock (pe_lc (own := [("one", 5)]) (g := (gName 5)) (tt := tYes)  rfl sc_law_without_old.nd (pi_keys (pv 3)) (blkOk_by (own := [("one", 5)]) (N := ["entries", "bound", "more", "found", "number", "one"]) (sc := defScope s_law_without_old) (by decide +kernel)) (fun _ _ _ _ _ => (pg_name (i := 5) sc_law_without_old.nd rfl (Or.inl rfl))) (fun _ _ _ _ _ => pts_nil) (fun _ _ _ _ _ => (pe_call (ok_law_size T) (hr.mono (by decide)) rfl T.g_law_size T.F_law_size.kp T.b_law_size .nil pass0 (pa_cons (pe_dget (hu_of hr) (pv 3) (pv 5) (fun _ _ => rfl)) pa_nil))))) pa_nil)) (pv 2)) (pv 1) (nomark _)) (pss_one (ps_expr (pe_dpop1 (pv 3) (pv 4) ⟨rfl, rfl, rfl, rfl⟩))) pss_nil)))
      (pss_one (ps_ret (pv 3))))), ?_⟩
    -- found = dict(..)
    refine ⟨D, .dK kvs, hD, True.intro, fun od => ?_⟩
    refine ⟨_, rfl, D, od, rfl, .inl ⟨kvs, upd_same, fun C hC => ?_⟩⟩
    have nDC : D ≠ C := fun z => by rw [← z, upd_same] at hC; cases hC
    refine lc_it walk_keys (fun j H' => ∃ ps : List Addr, H' C = some (.lst (ps.map V.ref)) ∧ Same (upd H D (.frz od (.dK kvs))) H' ∧ Paired (fun q (kv : Key × V) => SqT K H' q [kV kv.1, kv.2]) ps (kvs.take j)) ⟨[], upd_same, Same.new hC, .nil⟩ (fun j H' _ ⟨_, _, s', _⟩ => s' _ _ upd_same) ?_ ?_
    · rintro j x H' H'' hj ⟨ps, gC, s', hps⟩ ⟨rfl, ky, v0, hkv, rfl⟩
      have hv := val_mem nd (List.mem_of_getElem? hkv)
      have hpl2 := p_len hps
      refine ⟨rfl, yesI ?_⟩
      refine ⟨_, rfl, _, rfl, _, rfl, D, v0, rfl, .inl ⟨kvs, ky, .inr ⟨od, s' _ _ upd_same⟩, rfl, hv.symm⟩, by show 2 ≤ sizeLine; decide, fun tq htq => ?_⟩
      have sq := Same.new (o := .tup [kV ky, v0]) htq
      have gC2 := sq _ _ gC
      have tC : TS (upd H'' tq (.tup [kV ky, v0])) (upd (upd H'' tq (.tup [kV ky, v0])) C (.lst (ps.map V.ref ++ [.ref tq]))) := TS.at gC2 nt_lst
      refine ⟨_, gC2, ?_, ps ++ [tq], ?_, (s'.put (s'.free htq)).put hC, ?_⟩
      · rw [List.length_map, hpl2, List.length_take, sizeLine_eq]; omega
      · rw [upd_same, List.map_append]; rfl
      · rw [List.take_add_one, hkv]
        exact p_app (pmap (fun _ _ z => tC.tup (sq.tup z)) hps) (.cons (tC.tup (SqT.of upd_same)) .nil)
    rintro H1 ⟨ps, gC, s1, hps⟩
    rw [List.take_of_length_le (Nat.le_refl _)] at hps
    have sU := unlock hD s1
    have tU : TS H1 (upd H1 D (.dK kvs)) := TS.at (s1 _ _ upd_same) nt_fD
    refine ⟨s1 _ _ upd_same, C, ps, kvs, rfl, SqL.of (by rw [upd_ne (Ne.symm nDC)]; exact gC), pmap (fun _ _ z => tU.tup z) hps, fun U hU => ?_⟩
    have em : mergeK [] kvs = kvs := by rw [merge_app _ _ (by rw [List.nil_append]; exact nd)]; rfl
    rw [em]
    have sN := Same.new (o := .dK kvs) hU
    have sA := sU.trans sN
    have hUH : H U = none := sU.free hU
    have gU : upd (upd H1 D (.dK kvs)) U (.dK kvs) U = some (.dK kvs) := upd_same
    have hUD : D ≠ U := fun z => by rw [← z, upd_same] at hU; cases hU
    show tSeq _ _ _ _ (upd (upd H1 D (.dK kvs)) U (.dK kvs))
    generalize upd (upd H1 D (.dK kvs)) U (.dK kvs) = H2 at sA gU ⊢
    -- for number in sorted(entries)
    have hD2 := sA _ _ hD
    refine ⟨_, rfl, D, kvs, _, rfl, .inl hD2, keys_inl hp, by rw [List.length_map]; omega, fun ys pL perm sorted hpL => ?_⟩
    have eys := sorted_keys asc perm sorted
    subst eys
    have s3 := Same.new (o := .lst ((es.map fun e => ((e.1 : Nat) : Int)).map V.int)) hpL
    refine ⟨pL, rfl, ⟨_, SqL.of upd_same⟩, ?_⟩
    have gL : upd H2 pL (.lst ((es.map fun e => ((e.1 : Nat) : Int)).map V.int)) pL = some (.lst ((es.map fun e => ((e.1 : Nat) : Int)).map V.int)) := upd_same
    have gU3 := s3 _ _ gU
    have sB := sA.trans s3
    have nLU : pL ≠ U := fun z => by rw [z, gU] at hpL; cases hpL
    generalize upd H2 pL (.lst ((es.map fun e => ((e.1 : Nat) : Int)).map V.int)) = H3 at gL gU3 sB ⊢
    have p3 := pmap (fun _ _ z => PrV.ts z (.of sB)) hp
    refine for_list (K := K) (a := pL) (xs := (es.map fun e => ((e.1 : Nat) : Int)).map V.int) (fun i σ H' => ∃ (v4 : Option V) (cur : Ent), σ = [some (.ref D), some (.int (b : Nat)), some (.int (m : Nat)), some (.ref U), v4, none] ∧ (∀ c o, c ≠ U → H3 c = some o → H' c = some o) ∧ EntV K H' U cur ∧
        ((cur = es.drop i ∧ ∀ j, j < i → ¬ m + sumE (es.drop j) ≤ b) ∨ (cur = keepE b m es ∧ m + sumE cur ≤ b))) ⟨_, es, rfl, fun _ _ _ z => z, ⟨kvs, gU3, p3⟩, .inl ⟨rfl, fun _ z => (nomatch z)⟩⟩ (fun i σ H' _ ⟨_, _, _, k, _⟩ => SqL.of (k _ _ nLU gL)) ?_ ?_
    · rintro i x σ H4 hx ⟨v4, cur, rfl, k4, hcur, hst⟩
      rw [List.map_map, List.getElem?_map] at hx
      obtain ⟨en, hen, rfl⟩ := Option.map_eq_some_iff.mp hx
      obtain ⟨kc, gc, pc⟩ := id hcur
      have hcl := p_len pc
      have csub : cur.Sublist es := by
        rcases hst with ⟨rfl, _⟩ | ⟨rfl, _⟩
        · exact List.drop_sublist _ _
        · exact keep_sub b m es
      have cl60 := csub.length_le
      -- the sum
      refine ⟨U, .dK kc, gc, True.intro, fun od2 => ?_⟩
      have tl : TS H4 (upd H4 U (.frz od2 (.dK kc))) := TS.at gc nt_dK
      refine ⟨_, rfl, U, od2, rfl, .inl ⟨kc, upd_same, fun C2 hC2 => ?_⟩⟩
      have nUC : U ≠ C2 := fun z => by rw [← z, upd_same] at hC2; cases hC2
      have cnd : (cur.map (·.1)).Nodup := (List.Sublist.map _ csub).nodup asc.nd
      refine lc_map walk_keys (fun i => V.int ((fsz (cur.getD i fd0).2 : Nat) : Int)) (by omega) hC2 (fun H' s' => s' _ _ upd_same) ?_ ?_
      · rintro j y H' H'' Q' Z hj s' ⟨rfl, ky, v0, hkv, rfl⟩ q'
        obtain ⟨ej, hej, hpe⟩ := p_at pc hkv
        have hv := val_mem (keys_nd pc cnd) (List.mem_of_getElem? hkv)
        refine ⟨rfl, yesI ?_⟩
        refine ⟨_, rfl, _, rfl, U, v0, rfl, .inl ⟨kc, ky, .inr ⟨od2, s' _ _ upd_same⟩, rfl, hv.symm⟩, v0, ej.2, rfl, hpe.2.ts (tl.trans (.of s')), asc.fd _ (csub.subset (List.mem_of_getElem? hej)), ?_⟩
        have := q' H'' (Same.refl _)
        rw [getD_of fd0 hej] at this
        exact this
      intro H5 s5 hC5
      have sV := unlock gc s5
      refine ⟨s5 _ _ upd_same, C2, (List.range kc.length).map fun i => ((fsz (cur.getD i fd0).2 : Nat) : Int), rfl, SqL.of (by rw [upd_ne (Ne.symm nUC), hC5, List.map_map]; rfl), ?_⟩
      rw [hcl, sum_range]
      have gU5 : upd H5 U (.dK kc) U = some (.dK kc) := upd_same
      have k5 : ∀ c o, c ≠ U → H3 c = some o → upd H5 U (.dK kc) c = some o := fun c o n e => sV _ _ (k4 c o n e)
      have p5 := pmap (fun _ _ z => PrV.ts z (.of sV)) pc
      generalize upd H5 U (.dK kc) = H6 at gU5 k5 p5 ⊢
      refine ⟨_, rfl, _, _, rfl, rfl, _, rfl, _, _, rfl, rfl, _, rfl, ifb (fun h => ?_) (fun h => ?_)⟩
      · have h' : ¬ m + sumE cur ≤ b := by
          have : ((b : Nat) : Int) < ((sumE cur : Nat) : Int) + (m : Nat) := by simpa using h
          omega
        rcases hst with ⟨rfl, hj⟩ | ⟨_, hb⟩
        · have hdr := drop_at hen
          rw [hdr] at p5
          have hv : ∃ v, valV kc (nkey en.1) = some v := by
            rcases look_get (n := en.1) p5 with ⟨_, h0⟩ | ⟨v, f, hv, _, _⟩
            · obtain ⟨g, hg⟩ := look_has (es := en :: es.drop (i + 1)) (n := en.1) (f := en.2) (List.mem_cons_self ..)
              rw [h0] at hg; cases hg
            · exact ⟨v, hv⟩
          obtain ⟨v, hv⟩ := hv
          have asc2 : ((en :: es.drop (i + 1)).map (·.1)).Pairwise (· < ·) := by rw [← hdr]; exact List.Pairwise.sublist (List.Sublist.map _ (List.drop_sublist _ _)) asc.asc
          have dr := drop_get (n := en.1) p5
          rw [dropE_head asc2] at dr
          have tX : TS H6 (upd H6 U (.dK (dropK kc (nkey en.1)))) := TS.at gU5 nt_dK
          refine ⟨_, rfl, U, rfl, .inl ⟨_, .inl gU5⟩, _, rfl, _, nkey en.1, v, gU5, rfl, hv, ?_⟩
          refine ⟨_, es.drop (i + 1), rfl, fun c o n e => by rw [upd_ne n]; exact k5 c o n e, ⟨_, upd_same, pmap (fun _ _ z => z.ts tX) dr⟩, .inl ⟨rfl, fun j hj' => ?_⟩⟩
          rcases Nat.lt_or_ge j i with z | z
          · exact hj j z
          · have : j = i := by omega
            subst this; exact h'
        · exact absurd hb h'
      · have h' : m + sumE cur ≤ b := by
          have : ¬ ((b : Nat) : Int) < ((sumE cur : Nat) : Int) + (m : Nat) := by simpa using h
          omega
        refine ⟨_, cur, rfl, k5, ⟨kc, gU5, p5⟩, .inr ⟨?_, h'⟩⟩
        rcases hst with ⟨rfl, hj⟩ | ⟨e, _⟩
        · exact (keep_drop (by have := (List.getElem?_eq_some_iff.mp hen).1; omega) hj h').symm
        · exact e
    · rintro σ H4 ⟨v4, cur, rfl, k4, hcur, hst⟩
      have sF : Same H H4 := fun c o e => k4 c o (fun z => by rw [z, hUH] at e; cases e) (sB _ _ e)
      refine ⟨_, rfl, q U H4 hUH sF ?_⟩
      rw [List.length_map, List.length_map] at hst
      rcases hst with ⟨rfl, hj⟩ | ⟨e, _⟩
      · rw [(gone_take es es.length (Nat.le_refl _) hj (.inl rfl)).2]; exact hcur
      · rw [← e]; exact hcur
theorem ok_law_carried (T : Txt K mg) : FnOk P w K mg base CX0 3 T.f_law_carried T.d_law_carried ["setting", "state", "one"] (sp_law_carried K) := by
  refine T.F_law_carried.ok sc_law_carried (fun vs H Q E h => ?_) (fun cdv A outer s H vs Q E hr h => ?_)
  · obtain ⟨sv, st, v, F, r, w, t, i, rfl, _⟩ := h
    rfl
  · obtain ⟨sv, st, v, F, r, w, t, i, rfl, hS, okS, hT, ok, hmd, hi, oki, q⟩ := h
    refine ⟨_, (pss_cons (ps_asg (pe_slice sl_tup (pv 0) po_none (po_some pe_int)) (pg_tup rfl (pgs_cons (pg_name (i := 3) sc_law_carried.nd rfl (Or.inl rfl)) (pgs_cons (pg_name (i := 4) sc_law_carried.nd rfl (Or.inl rfl)) pgs_nil))))
      (pss_cons (ps_asg (pv 1) (pg_tup rfl (pgs_cons (pg_name (i := 5) sc_law_carried.nd rfl (Or.inl rfl)) (pgs_cons (pg_name (i := 6) sc_law_carried.nd rfl (Or.inl rfl)) (pgs_cons (pg_name (i := 7) sc_law_carried.nd rfl (Or.inl rfl)) pgs_nil)))))
      (pss_cons (ps_if (pt_cmpR op_eq (pe_ix ix_tup (pv 2) pe_int (fun _ _ => rfl)) pe_str (nomark _)) (pss_one (ps_ret (pe_ifExp (pt_cmpR op_le (pe_ix ix_tup (pv 2) pe_int (fun _ _ => rfl)) (pv 4) (nomark _)) (pe_tup (pa_cons (pe_call (ok_law_without_old T) (hr.mono (by decide)) rfl T.g_law_without_old T.F_law_without_old.kp T.b_law_without_old .nil pass0 (pa_cons (pv 5) (pa_cons (pe_ix ix_tup (pv 2) pe_int (fun _ _ => rfl)) (pa_cons pe_int pa_nil)))) (pa_cons (pv 6) (pa_cons (pe_ix ix_tup (pv 2) pe_int (fun _ _ => rfl)) pa_nil)))) pe_non))) pss_nil)
      (Evl.pss_cut (ps_if (pt_cmpR op_eq (pe_ix ix_tup (pv 2) pe_int (fun _ _ => rfl)) pe_str (nomark _)) (pss_one (ps_set (i := 8) sc_law_carried.nd rfl (Or.inl rfl) (pe_slice sl_tup (pv 2) (po_some pe_int) po_none))) (pss_one (ps_if (pt_cmpR op_eq (pe_ix ix_tup (pv 2) pe_int (fun _ _ => rfl)) pe_str (nomark _)) (pss_cons (ps_if (pt_cmpR op_ge (pe_ix ix_tup (pv 2) pe_int (fun _ _ => rfl)) (pe_callB call_len rfl T.z_len boot_len (pa_cons (pv 3) pa_nil)) (nomark _)) (pss_one (ps_ret pe_non)) pss_nil)
      (pss_one (ps_set (i := 8) sc_law_carried.nd rfl (Or.inl rfl) (pe_tup (pa_cons (pe_ix ix_tup (pe_ix ix_tup (pv 3) (pe_ix ix_tup (pv 2) pe_int (fun _ _ => rfl)) (fun _ _ => rfl)) pe_int (fun _ _ => rfl)) (pa_cons (pe_ix ix_tup (pv 2) pe_int (fun _ _ => rfl)) pa_nil)))))) (pss_cons (ps_if (pt_cmp (pc_dnotin (hu_of hr) (pe_op op_sub (pe_op op_sub (pv 6) pe_int) (pe_ix ix_tup (pv 2) pe_int (fun _ _ => rfl))) (pv 5))) (pss_one (ps_ret pe_non)) pss_nil)
      (pss_cons (ps_set (i := 9) sc_law_carried.nd rfl (Or.inl rfl) (pe_dget (hu_of hr) (pv 5) (pe_op op_sub (pe_op op_sub (pv 6) pe_int) (pe_ix ix_tup (pv 2) pe_int (fun _ _ => rfl))) (fun _ _ => rfl)))
      (pss_one (ps_set (i := 8) sc_law_carried.nd rfl (Or.inl rfl) (pe_ifExp (pt_cmpR op_eq (pe_ix ix_tup (pv 2) pe_int (fun _ _ => rfl)) pe_str (nomark _)) (pv 9) (pe_tup (pa_cons (pe_ix ix_tup (pv 9) pe_int (fun _ _ => rfl)) (pa_cons (pe_ix ix_tup (pv 2) pe_int (fun _ _ => rfl)) pa_nil)))))))))))
      (pss_cons (ps_if (pt_cmpR op_gt (pe_call (ok_law_size T) (hr.mono (by decide)) rfl T.g_law_size T.F_law_size.kp T.b_law_size .nil pass0 (pa_cons (pv 8) pa_nil)) (pv 7) (nomark _)) (pss_one (ps_ret pe_non)) pss_nil)
      (pss_cons (ps_set (i := 10) sc_law_carried.nd rfl (Or.inl rfl) (pe_call (ok_law_without_old T) (hr.mono (by decide)) rfl T.g_law_without_old T.F_law_without_old.kp T.b_law_without_old .nil pass0 (pa_cons (pv 5) (pa_cons (pv 7) (pa_cons (pe_call (ok_law_size T) (hr.mono (by decide)) rfl T.g_law_size T.F_law_size.kp T.b_law_size .nil pass0 (pa_cons (pv 8) pa_nil)) pa_nil)))))
      (pss_cons (ps_dput (hu_of hr) (pv 10) (pv 6) (pv 8) rfl)
      (pss_one (ps_ret (pe_tup (pa_cons (pv 10) (pa_cons (pe_op op_add (pv 6) pe_int) (pa_cons (pv 7) pa_nil))))))))))))), ?_⟩
    obtain ⟨sa, ft, fx, rfl, g1, g2, g3⟩ := id hS
    refine ⟨_, rfl, _, rfl, sa, _, rfl, g1, by show ¬ (HT.sIx 3 0 none = 0 ∧ HT.sIx 3 3 (some 2) = 3); decide, fun ps hps => ?_⟩
    refine ⟨ps, _, rfl, SqT.of upd_same, rfl, _, _, rfl, _, _, rfl, rfl, ?_⟩
    have s1 := Same.new (o := .tup [.ref ft, .int (r : Nat)]) hps
    show tSeq _ _ _ _ (upd H ps (.tup [.ref ft, .int (r : Nat)]))
    have g21 := s1.tup g2
    have g31 := g3.ts (.of s1)
    have hT1 := hT.same s1
    have hi1 := hi.ts (.of s1)
    generalize upd H ps (.tup [.ref ft, .int (r : Nat)]) = H1 at s1 g21 g31 hT1 hi1 ⊢
    obtain ⟨sta, D, rfl, g4, hE⟩ := hT1
    obtain ⟨kvs, hD, hp⟩ := id hE
    have hlF := p_len g31
    refine ⟨_, rfl, sta, _, rfl, g4, rfl, _, _, rfl, _, _, rfl, _, _, rfl, rfl, ?_⟩
    by_cases hlim : ∃ n, i = .limit n
    · obtain ⟨n, rfl⟩ := hlim
      obtain ⟨ia, rfl, hs⟩ := id hi1
      refine ⟨_, rfl, _, _, _, _, rfl, rfl, hs, rfl, rfl, _, rfl, ifT (by decide) ?_⟩
      refine ⟨_, rfl, _, _, _, _, rfl, rfl, hs, rfl, _, rfl, _, _, rfl, rfl, _, rfl, ifb (fun h => ?_) (fun h => ?_)⟩
      · have hn : n ≤ r := by have : ((n : Nat) : Int) ≤ (r : Nat) := of_decide_eq_true h; omega
        have e1 : stepT F r t (.limit n) = some ⟨n, t.made, keepE n 0 t.es⟩ := by show (if n ≤ r then _ else none) = _; rw [if_pos hn]
        rw [e1] at q
        refine ⟨_, rfl, _, rfl, _, _, _, _, rfl, rfl, hs, rfl, D, t.es, n, 0, rfl, hE, ok.ascE, fun D' H2 hD' s2 hE' => ?_⟩
        refine ⟨_, rfl, _, rfl, _, _, _, _, rfl, rfl, s2.tup hs, rfl, by show 3 ≤ sizeLine; decide, fun tp htp => ?_⟩
        exact q _ _ ((s1.trans s2).trans (Same.new htp)) ⟨tp, D', rfl, SqT.of upd_same, hE'.same (Same.new htp)⟩
      · have hn : ¬ n ≤ r := by have : ¬ ((n : Nat) : Int) ≤ (r : Nat) := of_decide_eq_false h; omega
        have e1 : stepT F r t (.limit n) = none := by show (if n ≤ r then _ else none) = _; rw [if_neg hn]
        rw [e1] at q
        exact q _ s1
    have hne : ∀ n, i ≠ .limit n := fun n z => hlim ⟨n, z⟩
    have hstep := step_no (F := F) (r := r) (t := t) hne
    obtain ⟨ia, rfl, hs⟩ := id hi1
    refine ⟨_, rfl, _, _, _, _, rfl, rfl, hs, kd_at i, rfl, _, rfl, ifF (kd_no hne) ?_⟩
    -- the field
    refine ⟨fun σ' H' => ∃ (fv : V) (v9 : Option V) (f : Fd), σ' = [some (.ref sa), some (.ref sta), some (.ref ia), some (.ref ft), some (.int (r : Nat)), some (.ref D), some (.int (t.made : Nat)), some (.int (t.bound : Nat)), some fv, v9, none] ∧ insF F t i = some f ∧ FdV K H' fv f ∧ FdOk f ∧ Same H1 H', ?_, ?_⟩
    · have nil : insF F t i = none → Q .non H1 := fun e => by
        rw [hstep, e] at q
        exact q _ s1
      cases i with
      | limit n => exact absurd rfl (hne n)
      | new y x =>
        refine ⟨_, rfl, _, _, _, _, rfl, rfl, hs, rfl, rfl, _, rfl, ifT (by decide) ?_⟩
        refine ⟨_, rfl, _, rfl, ia, _, rfl, hs, by show ¬ (HT.sIx 3 0 (some 1) = 0 ∧ HT.sIx 3 3 none = 3); decide, fun pa hpa => ?_⟩
        exact ⟨.ref pa, _, (y, x), rfl, rfl, ⟨pa, rfl, SqT.of upd_same⟩, ⟨oki.1, oki.2⟩, Same.new hpa⟩
      | fixed n x =>
        refine ⟨_, rfl, _, _, _, _, rfl, rfl, hs, rfl, rfl, _, rfl, ifF (by decide) ?_⟩
        refine ⟨_, rfl, _, _, _, _, rfl, rfl, hs, rfl, rfl, _, rfl, ifT (by decide) ?_⟩
        refine ⟨_, rfl, _, _, _, _, rfl, rfl, hs, rfl, _, rfl, _, _, rfl, .inr ⟨_, g21, rfl⟩, _, _, rfl, rfl, _, rfl, ifb (fun h => ?_) (fun h => ?_)⟩
        · refine nil ?_
          have hn : ¬ n < F.length := by have : ((fx.length : Nat) : Int) ≤ (n : Nat) := by simpa using h
                                         omega
          show Option.map _ (F[n]?) = none
          rw [List.getElem?_eq_none (by omega)]; rfl
        · have hn : n < F.length := by have : ¬ ((fx.length : Nat) : Int) ≤ (n : Nat) := by simpa using h
                                       omega
          obtain ⟨v, hv, hfd⟩ := p_at' g31 (List.getElem?_eq_getElem hn)
          have e0 := List.getElem?_eq_getElem hn
          generalize F[n] = f at e0 hfd
          obtain ⟨ba, rfl, hb⟩ := hfd
          refine ⟨_, rfl, _, rfl, _, _, _, _, rfl, rfl, hs, rfl, _, _, _, _, rfl, rfl, g21, atI_nat hv, _, _, _, _, rfl, rfl, hb, rfl, _, rfl, _, _, _, _, rfl, rfl, hs, rfl, by show 2 ≤ sizeLine; decide, fun pa hpa => ?_⟩
          exact ⟨.ref pa, _, (f.1, x), rfl, by show Option.map _ (F[n]?) = _; rw [e0]; rfl, ⟨pa, rfl, SqT.of upd_same⟩, ⟨(okS.fd f (List.mem_of_getElem? e0)).n, oki.2⟩, Same.new hpa⟩
      | again n =>
        refine ⟨_, rfl, _, _, _, _, rfl, rfl, hs, rfl, rfl, _, rfl, ifF (by decide) ?_⟩
        refine ⟨_, rfl, _, _, _, _, rfl, rfl, hs, rfl, rfl, _, rfl, ifF (by decide) ?_⟩
        refine ⟨_, rfl, _, _, rfl, rfl, _, rfl, _, _, _, _, rfl, rfl, hs, rfl, _, _, rfl, rfl, _, rfl, D, _, rfl, DGet.k (k := Sum.inl ((t.made : Int) - 1 - (n : Int))) hD, ?_⟩
        rcases look_int (z := (t.made : Int) - 1 - (n : Int)) hp with ⟨h1, h2⟩ | ⟨v, f, h1, h2, h3⟩
        · rw [h1]
          exact ⟨_, rfl, ifT rfl (nil h2)⟩
        · rw [h1]
          refine ⟨_, rfl, ifF rfl ?_⟩
          refine ⟨_, rfl, _, rfl, _, _, rfl, rfl, _, rfl, _, _, _, _, rfl, rfl, hs, rfl, _, _, rfl, rfl, D, v, rfl, by rw [← h1]; exact DGet.k (k := Sum.inl ((t.made : Int) - 1 - (n : Int))) hD, ?_⟩
          refine ⟨_, rfl, _, _, _, _, rfl, rfl, hs, rfl, rfl, _, rfl, ifT (by decide) ⟨_, rfl, ?_⟩⟩
          obtain ⟨k, hk⟩ := look_mem2 h2
          exact ⟨v, _, f, rfl, h2, h3, ok.fd _ hk, Same.refl _⟩
      | entry n x =>
        refine ⟨_, rfl, _, _, _, _, rfl, rfl, hs, rfl, rfl, _, rfl, ifF (by decide) ?_⟩
        refine ⟨_, rfl, _, _, _, _, rfl, rfl, hs, rfl, rfl, _, rfl, ifF (by decide) ?_⟩
        refine ⟨_, rfl, _, _, rfl, rfl, _, rfl, _, _, _, _, rfl, rfl, hs, rfl, _, _, rfl, rfl, _, rfl, D, _, rfl, DGet.k (k := Sum.inl ((t.made : Int) - 1 - (n : Int))) hD, ?_⟩
        rcases look_int (z := (t.made : Int) - 1 - (n : Int)) hp with ⟨h1, h2⟩ | ⟨v, f, h1, h2, h3⟩
        · rw [h1]
          exact ⟨_, rfl, ifT rfl (nil (by show Option.map _ (lookI _ _) = none; rw [h2]; rfl))⟩
        · rw [h1]
          refine ⟨_, rfl, ifF rfl ?_⟩
          refine ⟨_, rfl, _, rfl, _, _, rfl, rfl, _, rfl, _, _, _, _, rfl, rfl, hs, rfl, _, _, rfl, rfl, D, v, rfl, by rw [← h1]; exact DGet.k (k := Sum.inl ((t.made : Int) - 1 - (n : Int))) hD, ?_⟩
          obtain ⟨ba, rfl, hb⟩ := h3
          refine ⟨_, rfl, _, _, _, _, rfl, rfl, hs, rfl, rfl, _, rfl, ifF (by decide) ?_⟩
          refine ⟨_, rfl, _, _, _, _, rfl, rfl, hb, rfl, _, rfl, _, _, _, _, rfl, rfl, hs, rfl, by show 2 ≤ sizeLine; decide, fun pa hpa => ?_⟩
          obtain ⟨k, hk⟩ := look_mem2 h2
          exact ⟨.ref pa, _, (f.1, x), rfl, by show Option.map _ (lookI _ _) = _; rw [h2]; rfl, ⟨pa, rfl, SqT.of upd_same⟩, ⟨(ok.fd _ hk).n, oki.2⟩, Same.new hpa⟩
    rintro σ' H2 ⟨fv, v9, f, rfl, hf, hfd, fok, s2⟩
    rw [hf] at hstep
    have s02 := s1.trans s2
    refine ⟨_, rfl, fv, f, rfl, hfd, fok, _, rfl, _, _, rfl, rfl, _, rfl, ifb (fun h => ?_) (fun h => ?_)⟩
    · have hb : ¬ fsz f ≤ t.bound := by have : ((t.bound : Nat) : Int) < (fsz f : Nat) := by simpa using h
                                        omega
      have : roomT t f = false := by unfold roomT; rw [decide_eq_false hb, Bool.false_and]
      simp only [this, Bool.false_eq_true, if_false] at hstep
      rw [hstep] at q
      exact q _ s02
    · have hb : fsz f ≤ t.bound := by have : ¬ ((t.bound : Nat) : Int) < (fsz f : Nat) := by simpa using h
                                      omega
      have hroom : roomT t f = true := by unfold roomT; rw [decide_eq_true hb, decide_eq_true hmd]; rfl
      simp only [hroom, if_true] at hstep
      rw [hstep] at q
      refine ⟨_, rfl, _, rfl, _, rfl, fv, f, rfl, hfd, fok, D, t.es, t.bound, fsz f, rfl, hE.same s2, ok.ascE, fun D' H3 hD' s3 hE' => ?_⟩
      obtain ⟨kv3, gD3, p3⟩ := id hE'
      have hkl := p_len p3
      have hkl2 := (keep_sub t.bound (fsz f) t.es).length_le
      have hl24 := ok.len
      refine ⟨_, rfl, _, rfl, _, rfl, D', _, rfl, .inl ⟨kv3, nkey t.made, gD3, rfl, by rw [sizeLine_eq]; omega, rfl⟩, ?_⟩
      have hne2 : putE (keepE t.bound (fsz f) t.es) t.made f = keepE t.bound (fsz f) t.es ++ [(t.made, f)] := putE_new (keep_ok (b := t.bound) (m := fsz f) ok).2.1
      have hput := put_get (n := t.made) p3 (hfd.ts (.of s3))
      rw [hne2] at hput
      have tD : TS H3 (upd H3 D' (.dK (putK kv3 (nkey t.made) fv))) := TS.at gD3 nt_dK
      have hDH : H D' = none := s02.free hD'
      refine ⟨_, rfl, _, rfl, _, _, rfl, rfl, _, rfl, by show 3 ≤ sizeLine; decide, fun tp htp => ?_⟩
      refine q _ _ (((s02.trans s3).put hDH).trans (Same.new htp)) ⟨tp, D', rfl, SqT.of upd_same, EntV.same (H := upd H3 D' (.dK (putK kv3 (nkey t.made) fv))) ⟨_, upd_same, pmap (fun _ _ z => z.ts tD) hput⟩ (Same.new htp)⟩

theorem ok_law_draw_step (T : Txt K mg) : FnOk P w K mg base CX0 6 T.f_law_draw_step T.d_law_draw_step ["pen", "setting", "state"] (sp_draw_step K) := by
  refine T.F_law_draw_step.ok sc_law_draw_step (fun vs H Q E h => ?_) (fun cdv A outer s H vs Q E hr h => ?_)
  · obtain ⟨p, c, n, sv, st, F, r, w, t, rfl, _⟩ := h
    rfl
  · obtain ⟨p, c, n, sv, st, F, r, w, t, rfl, hp, hn, hS, okS, hT, ok, q⟩ := h
    have hud : (A.deeper (envOfC "_law_draw_step" (defScope s_law_draw_step) s.heap.objs.size T.f_law_draw_step cdv)).units + 64 < cLine := by have := hr.un; omega
    refine ⟨_, (pss_cons (ps_asg (pv 2) (pg_tup rfl (pgs_cons (pg_name (i := 3) sc_law_draw_step.nd rfl (Or.inl rfl)) (pgs_cons (pg_name (i := 4) sc_law_draw_step.nd rfl (Or.inl rfl)) (pgs_cons (pg_name (i := 5) sc_law_draw_step.nd rfl (Or.inl rfl)) pgs_nil)))))
      (pss_cons (ps_par (i := 6) (j := 7) rfl sc_law_draw_step.nd rfl rfl (by decide) rfl rfl (pa_cons (pe_call (ok_law_draw_near_field T) (hr.mono (by decide)) rfl T.g_law_draw_near_field T.F_law_draw_near_field.kp T.b_law_draw_near_field .nil pass0 (pa_cons (pv 0) pa_nil)) (pa_cons (pe_call (ok_law_take T) (hr.mono (by decide)) rfl T.g_law_take T.F_law_take.kp T.b_law_take .nil pass0 (pa_cons (pv 0) (pa_cons pe_int pa_nil))) pa_nil)) (by rfl))
      (pss_cons (ps_if (pt_cmpR op_eq (pv 7) pe_int (nomark _)) (pss_cons (ps_set (i := 8) sc_law_draw_step.nd rfl (Or.inl rfl) (pe_ix ix_tup (pv 1) pe_int (fun _ _ => rfl)))
      (pss_one (ps_ret (pe_tup (pa_cons pe_str (pa_cons (pe_call (ok_law_one_of T) (hr.mono (by decide)) rfl T.g_law_one_of T.F_law_one_of.kp T.b_law_one_of .nil pass0 (pa_cons (pv 0) (pa_cons (pe_lst (pa_cons pe_int (pa_cons (pv 8) (pa_cons (pv 8) (pa_cons (pe_op op_fdiv (pv 8) pe_int) (pa_cons (pe_op op_add (pv 8) pe_int) (pa_cons (pe_call (ok_law_take T) (hr.mono (by decide)) rfl T.g_law_take T.F_law_take.kp T.b_law_take .nil pass0 (pa_cons (pv 0) (pa_cons pe_int pa_nil))) pa_nil))))))) pa_nil))) pa_nil)))))) pss_nil)
      (Evl.pss_cut (ps_if (PW.pt (pw_and (pt_cmpR op_lt (pv 7) pe_int (nomark _)) (pw_and1 (pt_cmpR (op_neDic hud) (pv 3) pe_dnewK (nomark _))))) (pss_cons (ps_set (i := 9) sc_law_draw_step.nd rfl (Or.inl rfl) (pe_call (ok_law_one_of T) (hr.mono (by decide)) rfl T.g_law_one_of T.F_law_one_of.kp T.b_law_one_of .nil pass0 (pa_cons (pv 0) (pa_cons (pe_op op_cat (pe_callB (call_sortedDI rfl) rfl T.z_sorted boot_sorted (pa_cons (pv 3) pa_nil)) (pe_lst (pa_cons (pe_op op_sub (pv 4) pe_int) pa_nil))) pa_nil))))
      (pss_cons (ps_if (pt_cmpR op_eq (pv 7) pe_int (nomark _)) (pss_one (ps_ret (pe_tup (pa_cons pe_str (pa_cons (pe_callB (call_max2 rfl) rfl T.z_max boot_max (pa_cons pe_int (pa_cons (pe_op op_sub (pe_op op_sub (pv 4) pe_int) (pv 9)) pa_nil))) pa_nil))))) pss_nil)
      (pss_one (ps_ret (pe_tup (pa_cons pe_str (pa_cons (pe_callB (call_max2 rfl) rfl T.z_max boot_max (pa_cons pe_int (pa_cons (pe_op op_sub (pe_op op_sub (pv 4) pe_int) (pv 9)) pa_nil))) (pa_cons (pe_ix ix_tup (pv 6) pe_int (fun _ _ => rfl)) pa_nil)))))))) pss_nil)
      (Evl.pss_cut (ps_if (PW.pt (pw_and (pt_cmpR op_eq (pv 7) pe_int (nomark _)) (pw_and1 (pt_cmpR (op_neD hud) (pe_ix ix_tup (pv 1) pe_int (fun _ _ => rfl)) (pe_tup pa_nil) (nomark _))))) (pss_one (ps_ret (pe_tup (pa_cons pe_str (pa_cons (pe_call (ok_law_take T) (hr.mono (by decide)) rfl T.g_law_take T.F_law_take.kp T.b_law_take .nil pass0 (pa_cons (pv 0) (pa_cons (pe_callB call_len rfl T.z_len boot_len (pa_cons (pe_ix ix_tup (pv 1) pe_int (fun _ _ => rfl)) pa_nil)) pa_nil))) (pa_cons (pe_ix ix_tup (pv 6) pe_int (fun _ _ => rfl)) pa_nil)))))) pss_nil)
      (pss_cons (ps_if (pt_cmpR op_eq (pv 7) pe_int (nomark _)) (pss_one (ps_ret (pe_call (ok_law_one_of T) (hr.mono (by decide)) rfl T.g_law_one_of T.F_law_one_of.kp T.b_law_one_of .nil pass0 (pa_cons (pv 0) (pa_cons (pe_lst (pa_cons (pe_tup (pa_cons pe_str (pa_cons (pe_call (ok_law_take T) (hr.mono (by decide)) rfl T.g_law_take T.F_law_take.kp T.b_law_take .nil pass0 (pa_cons (pv 0) (pa_cons pe_int pa_nil))) pa_nil))) (pa_cons (pe_tup (pa_cons pe_str (pa_cons (pe_call (ok_law_take T) (hr.mono (by decide)) rfl T.g_law_take T.F_law_take.kp T.b_law_take .nil pass0 (pa_cons (pv 0) (pa_cons pe_int pa_nil))) (pa_cons pe_str pa_nil)))) (pa_cons (pe_tup (pa_cons pe_str (pa_cons pe_int (pa_cons pe_str pa_nil)))) pa_nil)))) pa_nil))))) pss_nil)
      (pss_one (ps_ret (pe_op op_catT (pe_tup (pa_cons pe_str pa_nil)) (pv 6)))))))))), ?_⟩
    obtain ⟨sta, D, rfl, g4, hE⟩ := id hT
    have hmd := ok.mad
    refine ⟨_, rfl, sta, _, rfl, g4, rfl, _, _, rfl, _, _, rfl, _, _, rfl, rfl, ?_⟩
    refine ⟨_, rfl, p, c, _, rfl, hp, by omega, fun fv f H1 hv hf d1 => ?_⟩
    refine ⟨_, rfl, p, c, _, 9, rfl, d1.pen, by decide, by decide, by omega, fun wy H2 h0 h1 d2 => ⟨_, _, rfl, ?_⟩⟩
    have D2 := d1.trans d2
    have k2 := KS.drew hp D2
    have hv2 := hv.ts (TS.drew d1.pen d2)
    have hS2 := hS.ts k2.ts
    have hE2 := hE.ks k2
    obtain ⟨fa, rfl, hfa⟩ := id hv2
    obtain ⟨sa, ft, fx, rfl, g1, g2, g3⟩ := id hS2
    obtain ⟨kvs, hD, hpp⟩ := id hE2
    have hkl := p_len hpp
    have hl24 := ok.len
    have hlF := p_len g3
    have hF12 := okS.len
    have hr120 := okS.r
    -- way == 0
    refine ⟨_, rfl, rfl, _, rfl, ifb (fun _ => ?_) (fun _ => ?_)⟩
    · refine ⟨_, rfl, _, _, _, _, rfl, rfl, g1, rfl, ?_⟩
      refine ⟨_, rfl, _, rfl, _, rfl, _, rfl, _, _, rfl, rfl, ⟨by decide, by decide⟩, _, rfl, _, _, rfl, rfl, _, rfl, p, c, _, 121, rfl, D2.pen, by decide, by decide, by omega, fun r3 H3 h30 h31 d3 => ?_⟩
      refine ⟨by show 6 ≤ sizeLine; decide, fun l hl => ?_⟩
      refine ⟨p, c, l, _, _, rfl, d3.pen.new hl, SqL.of upd_same, Ne.symm (d3.pen.ne hl), by simp, by show 6 ≤ 1000; decide, by omega, fun x H4 hx d4 => ?_⟩
      obtain ⟨z, rfl, hz⟩ : ∃ z : Nat, x = .int (z : Nat) ∧ z ≤ 9999 := by
        simp only [List.mem_cons, List.not_mem_nil, or_false] at hx
        rcases hx with h | h | h | h | h | h
        · exact ⟨0, h, by omega⟩
        · exact ⟨r, h, by omega⟩
        · exact ⟨r, h, by omega⟩
        · exact ⟨r / 2, by rw [h]; rfl, by omega⟩
        · exact ⟨r + 1, by rw [h]; rfl, by omega⟩
        · exact ⟨r3.toNat, by rw [h, Int.toNat_of_nonneg h30], by omega⟩
      refine ⟨by show 2 ≤ sizeLine; decide, fun tp htp => ?_⟩
      have D4 : Drew p c H H4 (n + 113) := ⟨d4.pen.mono (by omega), D2.but.trans (d3.but.trans ((But.new hl).trans d4.but))⟩
      exact q _ (.limit z) _ ⟨tp, rfl, SqT.of upd_same⟩ hz ((D4.keep (Same.new htp)).mono (by omega))
    -- way < 3
    have P2 := D2.pen.mono (show _ ≤ n + 111 by omega)
    have D2' : Drew p c H H2 (n + 111) := ⟨P2, D2.but⟩
    refine ⟨fun σ' H' => σ' = [some (.ref p), some (.ref sa), some (.ref sta), some (.ref D), some (.int (t.made : Nat)), some (.int (t.bound : Nat)), some (.ref fa), some (.int wy), none, none] ∧ Same H2 H', ?_, ?_⟩
    · refine ⟨_, rfl, _, _, rfl, rfl, _, rfl, ifb (fun _ => ?_) (fun _ => ⟨rfl, Same.refl _⟩)⟩
      refine ⟨_, rfl, fun E0 hE0 => ?_⟩
      have s3 := Same.new (o := .dK []) hE0
      refine ⟨D, E0, kvs, rfl, rfl, s3 _ _ hD, upd_same, _, rfl, ifb (fun he => ?_) (fun _ => ⟨rfl, s3⟩)⟩
      have hk0 : kvs ≠ [] := fun e => by rw [e] at he; cases he
      obtain ⟨e0, he0⟩ : ∃ e, e ∈ t.es := by
        cases hh : t.es with
        | nil => rw [hh] at hkl; exact absurd (List.length_eq_zero_iff.mp hkl) hk0
        | cons e _ => exact ⟨e, List.mem_cons_self ..⟩
      have hm1 : 1 ≤ t.made := by have := ok.lt e0 he0; omega
      have P3 := P2.keep s3
      have gD3 := s3 _ _ hD
      have hv3 := s3.tup hfa
      generalize upd H2 E0 (.dK []) = H3 at s3 P3 gD3 hv3 ⊢
      refine ⟨_, rfl, _, rfl, D, kvs, _, rfl, .inl gD3, keys_inl hpp, by rw [List.length_map]; omega, fun ys pL perm sorted hpL => ?_⟩
      have eys := sorted_keys ok.ascE perm sorted
      subst eys
      have s4 := Same.new (o := .lst ((t.es.map fun e => ((e.1 : Nat) : Int)).map V.int)) hpL
      refine ⟨_, rfl, _, _, rfl, rfl, by show 1 ≤ sizeLine; decide, fun l5 hl5 => ?_⟩
      have s5 := Same.new (o := .lst [.int ((t.made : Int) - 1)]) hl5
      refine ⟨pL, l5, _, _, rfl, rfl, s5 _ _ upd_same, upd_same, by rw [List.length_map, List.length_map]; show t.es.length + 1 ≤ sizeLine; rw [sizeLine_eq]; omega, fun l6 hl6 => ?_⟩
      have s6 := Same.new (o := .lst ((t.es.map fun e => ((e.1 : Nat) : Int)).map V.int ++ [.int ((t.made : Int) - 1)])) hl6
      have P6 := ((P3.keep s4).keep s5).keep s6
      refine ⟨p, c, l6, _, _, rfl, P6, SqL.of upd_same, Ne.symm (((P3.keep s4).keep s5).ne hl6), by simp, by rw [List.length_append, List.length_map, List.length_map]; show t.es.length + 1 ≤ 1000; omega, by omega, fun x H7 hx d7 => ?_⟩
      obtain ⟨z, rfl, hz⟩ : ∃ z : Nat, x = .int (z : Nat) ∧ z + 1 ≤ t.made := by
        rcases List.mem_append.mp hx with h | h
        · obtain ⟨y, hy, rfl⟩ := List.mem_map.mp h
          obtain ⟨e, he2, rfl⟩ := List.mem_map.mp hy
          exact ⟨e.1, rfl, by have := ok.lt e he2; omega⟩
        · rw [List.mem_singleton.mp h]
          exact ⟨t.made - 1, by show V.int ((t.made : Int) - 1) = _; congr 1; omega, by omega⟩
      have D7 : Drew p c H H7 (n + 112) := ⟨d7.pen.mono (by omega), D2.but.trans ((But.of (s3.trans ((s4.trans s5).trans s6))).trans d7.but)⟩
      have hv7 := (TS.drew P6 d7).tup (((s4.trans s5).trans s6).tup hv3)
      have emx : (if (t.made : Int) - 1 - (z : Int) > 0 then (t.made : Int) - 1 - (z : Int) else 0) = ((t.made - 1 - z : Nat) : Int) := by split <;> omega
      refine ⟨_, rfl, rfl, _, rfl, ifb (fun _ => ?_) (fun _ => ?_)⟩
      · refine ⟨_, rfl, _, _, rfl, rfl, _, rfl, _, _, rfl, rfl, _, _, rfl, by show 2 ≤ sizeLine; decide, fun tp htp => ?_⟩
        rw [emx]
        exact q _ (.again (t.made - 1 - z)) _ ⟨tp, rfl, SqT.of upd_same⟩ (by show _ ≤ 9999; omega) ((D7.keep (Same.new htp)).mono (by omega))
      · refine ⟨_, rfl, _, _, rfl, rfl, _, rfl, _, _, rfl, rfl, _, _, rfl, _, rfl, _, _, _, _, rfl, rfl, hv7, rfl, by show 3 ≤ sizeLine; decide, fun tp htp => ?_⟩
        rw [emx]
        exact q _ (.entry (t.made - 1 - z) f.2) _ ⟨tp, rfl, SqT.of upd_same⟩ ⟨by omega, hf.v⟩ ((D7.keep (Same.new htp)).mono (by omega))
    rintro σ' H3 ⟨rfl, s3⟩
    have P3 := P2.keep s3
    have g13 := s3.tup g1
    have g23 := s3.tup g2
    have g33 := g3.ts (.of s3)
    have hfa3 := s3.tup hfa
    -- way == 3
    refine ⟨fun σ' H' => σ' = [some (.ref p), some (.ref sa), some (.ref sta), some (.ref D), some (.int (t.made : Nat)), some (.int (t.bound : Nat)), some (.ref fa), some (.int wy), none, none] ∧ Same H2 H', ?_, ?_⟩
    · refine ⟨_, rfl, rfl, _, rfl, ifb (fun _ => ?_) (fun _ => ⟨rfl, s3⟩)⟩
      refine ⟨_, rfl, _, _, _, _, rfl, rfl, g13, rfl, by show 0 ≤ sizeLine; decide, fun t0 ht0 => ?_⟩
      have s4 := Same.new (o := .tup []) ht0
      refine ⟨.tuple (F.map fdat), .tuple [], .tup (s4.tup g23) (FdsV.dp (g33.ts (.of s4))), .tup (SqT.of upd_same) .nil, fds_shaped okS.fd (by omega), rfl, _, rfl, ifb (fun he => ?_) (fun _ => ⟨rfl, s3.trans s4⟩)⟩
      have hF0 : 0 < F.length := by
        cases hF : F with
        | nil => rw [hF] at he; cases he
        | cons _ _ => rw [List.length_cons]; omega
      have P4 := P3.keep s4
      refine ⟨_, rfl, _, rfl, _, _, _, _, rfl, rfl, s4.tup g13, rfl, _, _, rfl, .inr ⟨_, s4.tup g23, rfl⟩, p, c, _, _, rfl, P4, by omega, by omega, by omega, fun k H5 hk0 hk1 d5 => ?_⟩
      obtain ⟨k, rfl⟩ : ∃ k' : Nat, k = (k' : Int) := ⟨k.toNat, by omega⟩
      have hfa5 := (TS.drew P4 d5).tup (s4.tup hfa3)
      refine ⟨_, rfl, _, _, _, _, rfl, rfl, hfa5, rfl, by show 3 ≤ sizeLine; decide, fun tp htp => ?_⟩
      have D5 : Drew p c H H5 (n + 112) := ⟨d5.pen.mono (by omega), D2.but.trans ((But.of (s3.trans s4)).trans d5.but)⟩
      exact q _ (.fixed k f.2) _ ⟨tp, rfl, SqT.of upd_same⟩ ⟨by omega, hf.v⟩ ((D5.keep (Same.new htp)).mono (by omega))
    clear s3 P3 g13 g23 g33 hfa3 H3
    rintro σ' H3 ⟨rfl, s3⟩
    have P3 := P2.keep s3
    have hfa3 := s3.tup hfa
    -- way == 4
    refine ⟨_, rfl, rfl, _, rfl, ifb (fun _ => ?_) (fun _ => ?_)⟩
    · refine ⟨_, rfl, _, rfl, p, c, _, 9, rfl, P3, by decide, by decide, by omega, fun a4 H4 h40 h41 d4 => ?_⟩
      obtain ⟨a4, rfl⟩ : ∃ k' : Nat, a4 = (k' : Int) := ⟨a4.toNat, by omega⟩
      refine ⟨by show 2 ≤ sizeLine; decide, fun t1 ht1 => ?_⟩
      have s5 := Same.new (o := .tup [.str "again", .int (a4 : Nat)]) ht1
      refine ⟨_, rfl, p, c, _, 14, rfl, d4.pen.keep s5, by decide, by decide, by omega, fun a6 H6 h60 h61 d6 => ?_⟩
      obtain ⟨a6, rfl⟩ : ∃ k' : Nat, a6 = (k' : Int) := ⟨a6.toNat, by omega⟩
      refine ⟨by show 3 ≤ sizeLine; decide, fun t2 ht2 => ?_⟩
      have s7 := Same.new (o := .tup [.str "fixed", .int (a6 : Nat), .str "1"]) ht2
      refine ⟨by show 3 ≤ sizeLine; decide, fun t3 ht3 => ?_⟩
      have s8 := Same.new (o := .tup [.str "entry", .int 3, .str ""]) ht3
      refine ⟨by show 3 ≤ sizeLine; decide, fun l hl => ?_⟩
      have s9 := Same.new (o := .lst [.ref t1, .ref t2, .ref t3]) hl
      have P9 := (d6.pen.keep (s7.trans s8)).keep s9
      refine ⟨p, c, l, _, _, rfl, P9, SqL.of upd_same, Ne.symm ((d6.pen.keep (s7.trans s8)).ne hl), by simp, by show 3 ≤ 1000; decide, by omega, fun x H10 hx d10 => ?_⟩
      have D10 : Drew p c H H10 (n + 114) := ⟨d10.pen.mono (by omega), D2.but.trans ((But.of s3).trans (d4.but.trans ((But.of s5).trans (d6.but.trans ((But.of (s7.trans (s8.trans s9))).trans d10.but)))))⟩
      have t10 := TS.drew P9 d10
      have g3' : SqT K H10 t3 [.str "entry", .int ((3 : Nat) : Int), .str ""] := t10.tup (s9.tup (SqT.of upd_same))
      have g2' : SqT K H10 t2 [.str "fixed", .int (a6 : Nat), .str "1"] := t10.tup ((s8.trans s9).tup (SqT.of upd_same))
      have g1' : SqT K H10 t1 [.str "again", .int (a4 : Nat)] := t10.tup (((s7.trans s8).trans s9).tup ((TS.drew (d4.pen.keep s5) d6).tup (SqT.of upd_same)))
      have ok1 : txt (.str ("1" : Str)) 0 40 = true := by decide +kernel
      have ok0 : txt (.str ("" : Str)) 0 40 = true := by decide +kernel
      simp only [List.mem_cons, List.not_mem_nil, or_false] at hx
      rcases hx with rfl | rfl | rfl
      · exact q _ (.again a4) _ ⟨t1, rfl, g1'⟩ (by show a4 ≤ 9999; omega) (D10.mono (by omega))
      · exact q _ (.fixed a6 "1") _ ⟨t2, rfl, g2'⟩ ⟨by omega, ok1⟩ (D10.mono (by omega))
      · exact q _ (.entry 3 "") _ ⟨t3, rfl, g3'⟩ ⟨by omega, ok0⟩ (D10.mono (by omega))
    · refine ⟨by show 1 ≤ sizeLine; decide, fun t1 ht1 => ?_⟩
      have s5 := Same.new (o := .tup [.str "new"]) ht1
      refine ⟨_, rfl, t1, fa, _, _, rfl, rfl, SqT.of upd_same, s5.tup hfa3, by simp, by show 3 ≤ sizeLine; decide, fun e => (nomatch e), fun _ tp htp => ?_⟩
      have D5 : Drew p c H (upd H3 t1 (.tup [.str "new"])) (n + 111) := ⟨P3.keep s5, D2.but.trans (But.of (s3.trans s5))⟩
      exact q _ (.new f.1 f.2) _ ⟨tp, rfl, SqT.of upd_same⟩ ⟨hf.n, hf.v⟩ ((D5.keep (Same.new htp)).mono (by omega))
theorem ok_law_draw_work (T : Txt K mg) : FnOk P w K mg base CX0 7 T.f_law_draw_work T.d_law_draw_work ["pen", "setting", "most"] (sp_draw_work K) := by
  refine T.F_law_draw_work.ok sc_law_draw_work (fun vs H Q E h => ?_) (fun cdv A outer s H vs Q E hr h => ?_)
  · obtain ⟨p, c, n, m, sv, F, r, w, rfl, _⟩ := h
    rfl
  · obtain ⟨p, c, n, m, sv, F, r, w, rfl, hp, hn, hm, hS, okS, q⟩ := h
    refine ⟨_, (pss_cons (ps_par (i := 3) (j := 4) rfl sc_law_draw_work.nd rfl rfl (by decide) rfl rfl (pa_cons (pe_lst pa_nil) (pa_cons (pe_tup (pa_cons pe_dnewK (pa_cons pe_int (pa_cons (pe_ix ix_tup (pv 1) pe_int (fun _ _ => rfl)) pa_nil)))) pa_nil)) (by rfl))
      (pss_cons (ps_for PassesOwn.never rfl (pi_range1 rfl T.z_range (pa_cons (pe_call (ok_law_take T) (hr.mono (by decide)) rfl T.g_law_take T.F_law_take.kp T.b_law_take .nil pass0 (pa_cons (pv 0) (pa_cons (pe_op op_add (pv 2) pe_int) pa_nil))) pa_nil)) (pg_name (i := 5) sc_law_draw_work.nd rfl (Or.inl rfl))
        (pss_cons (ps_set (i := 6) sc_law_draw_work.nd rfl (Or.inl rfl) (pe_call (ok_law_draw_step T) (hr.mono (by decide)) rfl T.g_law_draw_step T.F_law_draw_step.kp T.b_law_draw_step .nil pass0 (pa_cons (pv 0) (pa_cons (pv 1) (pa_cons (pv 4) pa_nil)))))
      (pss_cons (ps_set (i := 7) sc_law_draw_work.nd rfl (Or.inl rfl) (pe_call (ok_law_carried T) (hr.mono (by decide)) rfl T.g_law_carried T.F_law_carried.kp T.b_law_carried .nil pass0 (pa_cons (pv 1) (pa_cons (pv 4) (pa_cons (pv 6) pa_nil)))))
      (pss_one (ps_if (pt_cmpR op_notN (pv 7) pe_non (nomark _)) (pss_cons (ps_expr (pe_bm PySem.F.plainAttrs_list PySem.F.slot_list_append PySem.F.type_list_append mt_append (pv 3) (pa_cons (pv 6) pa_nil)))
      (pss_one (ps_set (i := 4) sc_law_draw_work.nd rfl (Or.inl rfl) (pv 7)))) pss_nil)))))
      (pss_one (ps_ret (pe_tup (pa_cons (pv 3) (pa_cons (pv 4) pa_nil))))))), ?_⟩
    refine ⟨by show 0 ≤ sizeLine; decide, fun L hL => ?_⟩
    have s1 := Same.new (o := .lst []) hL
    have gL1 : upd H L (.lst []) L = some (.lst []) := upd_same
    refine fun D hD => ?_
    have s2 := Same.new (o := .dK []) hD
    obtain ⟨sa, ft, fx, rfl, g1, g2, g3⟩ := hS.ts (.of (s1.trans s2))
    refine ⟨_, rfl, _, _, _, _, rfl, rfl, g1, rfl, by show 3 ≤ sizeLine; decide, fun st hst => ⟨_, _, rfl, ?_⟩⟩
    have s3 := Same.new (o := .tup [.ref D, .int 0, .int (r : Nat)]) hst
    have sA := (s1.trans s2).trans s3
    have gL : upd (upd (upd H L (.lst [])) D (.dK [])) st (.tup [.ref D, .int 0, .int (r : Nat)]) L = some (.lst []) := s3 _ _ (s2 _ _ gL1)
    have hT0 : StV K (upd (upd (upd H L (.lst [])) D (.dK [])) st (.tup [.ref D, .int 0, .int (r : Nat)])) (.ref st) (tb0 r) := ⟨st, D, rfl, SqT.of upd_same, [], s3 _ _ upd_same, .nil⟩
    have P3 := hp.keep sA
    have hS3 : SetV K (upd (upd (upd H L (.lst [])) D (.dK [])) st (.tup [.ref D, .int 0, .int (r : Nat)])) (.ref sa) F r w := hS.ts (.of sA)
    have hLp : L ≠ p := Ne.symm (hp.ne hL)
    have hLc := hp.nec hL
    show tSeq _ _ _ _ (upd (upd (upd H L (.lst [])) D (.dK [])) st (.tup [.ref D, .int 0, .int (r : Nat)]))
    generalize upd (upd (upd H L (.lst [])) D (.dK [])) st (.tup [.ref D, .int 0, .int (r : Nat)]) = H3 at sA gL hT0 P3 hS3 ⊢
    refine ⟨_, rfl, _, rfl, _, _, rfl, rfl, p, c, _, _, rfl, P3, by omega, by omega, by omega, fun k H4 hk0 hk1 d4 => ?_⟩
    obtain ⟨k, rfl⟩ : ∃ k' : Nat, k = (k' : Int) := ⟨k.toNat, by omega⟩
    refine ⟨_, rfl, by omega, by omega, ?_⟩
    rw [Int.toNat_natCast]
    have k4 := KS.drew P3 d4
    refine for_range (lo := 0) (n := k) (fun i σ H' => ∃ (v5 v6 v7 : Option V) (stv : V) (xs : List V) (is : List Ins) (t : Tb), σ = [some (.ref p), some (.ref sa), some (.int (m : Nat)), some (.ref L), some stv, v5, v6, v7] ∧ Pen H' p c (n + 1 + 160 * i) ∧ But p H H' ∧ H' L = some (.lst xs) ∧ InssV K H' xs is ∧ (∀ j ∈ is, j.Ok) ∧ is.length ≤ i ∧ SetV K H' (.ref sa) F r w ∧ StV K H' stv t ∧ TbOk r t ∧ runT F r (tb0 r) 0 is = .ok t ∧ t.made ≤ is.length)
      ⟨_, _, _, .ref st, [], [], tb0 r, rfl, d4.pen.mono (by omega), (But.of sA).trans d4.but, d4.but _ _ hLp gL, .nil, fun _ h => (nomatch h), Nat.le_refl _, hS3.ts k4.ts, hT0.ks k4, tb0_ok okS.r, rfl, Nat.le_refl _⟩ ?_ ?_
    · rintro i σ H5 hi ⟨v5, v6, v7, stv, xs, is, t, rfl, P5, B5, gL5, hi5, oki, hil, hS5, hT5, ok5, hrun, hmd⟩
      refine ⟨_, rfl, _, rfl, _, rfl, p, c, _, .ref sa, stv, F, r, w, t, rfl, P5, by omega, hS5, okS, hT5, ok5, fun v j H6 hv okj d6 => ?_⟩
      have k6 := KS.drew P5 d6
      have hS6 := hS5.ts k6.ts
      have hT6 := hT5.ks k6
      have gL6 := d6.but _ _ hLp gL5
      refine ⟨_, rfl, _, rfl, _, rfl, .ref sa, stv, v, F, r, w, t, j, rfl, hS6, okS, hT6, ok5, by omega, hv, okj, ?_⟩
      have hxl := p_len hi5
      cases hst2 : stepT F r t j with
      | none =>
        refine fun H7 s7 => ?_
        refine ⟨_, rfl, rfl, _, rfl, ifF rfl ?_⟩
        exact ⟨_, _, _, stv, xs, is, t, rfl, (d6.pen.keep s7).mono (by omega), (B5.trans d6.but).trans (But.of s7), s7 _ _ gL6, (hi5.ts k6.ts).ts (.of s7), oki, by omega, hS6.ts (.of s7), hT6.same s7, ok5, hrun, hmd⟩
      | some t' =>
        refine fun v7 H7 s7 hv7 => ?_
        obtain ⟨a7, D7, rfl, g7, hE7⟩ := id hv7
        refine ⟨_, rfl, rfl, _, rfl, ifT rfl ?_⟩
        have gL7 := s7 _ _ gL6
        refine ⟨_, rfl, .inl ⟨rfl, _, SqL.of gL7⟩, _, rfl, L, _, _, rfl, rfl, gL7, by rw [sizeLine_eq]; omega, ?_⟩
        have kL : KS H7 (upd H7 L (.lst (xs ++ [v]))) := KS.at gL7
        have hLH : H L = none := hL
        refine ⟨_, rfl, _, _, _, .ref a7, xs ++ [v], is ++ [j], t', rfl, ((d6.pen.keep s7).upd (Ne.symm hLp) ?_).mono (by omega), ((B5.trans d6.but).trans (But.of s7)).put hLH, upd_same, p_app ((((hi5.ts k6.ts).ts (.of s7))).ts kL.ts) (.cons ((hv.ts (.of s7)).ts kL.ts) .nil), fun j' hj' => ?_, by rw [List.length_append]; show is.length + 1 ≤ i + 1; omega, (hS6.ts (.of s7)).ts kL.ts, hv7.ks kL, ok5.step okS.fd okj hst2, runT_snoc hrun hst2, ?_⟩
        · exact hLc
        · rcases List.mem_append.mp hj' with z | z
          · exact oki j' z
          · rw [List.mem_singleton.mp z]; exact okj
        · have := step_made hst2
          rw [List.length_append]; show t'.made ≤ is.length + 1; omega
    · rintro σ H5 ⟨v5, v6, v7, stv, xs, is, t, rfl, P5, B5, gL5, hi5, oki, hil, hS5, hT5, ok5, hrun, hmd⟩
      refine ⟨_, rfl, _, rfl, by show 2 ≤ sizeLine; decide, fun qv hq => ?_⟩
      have s6 := Same.new (o := .tup [.ref L, stv]) hq
      refine q qv L stv xs is t _ (SqT.of upd_same) hLp hL (s6 _ _ gL5) (hi5.ts (.of s6)) oki (by omega) (hT5.same s6) ok5 hrun hmd ⟨(P5.keep s6).mono (by omega), B5.trans (But.of s6)⟩

theorem ok_run_table__wa (T : Txt K mg) : FnOk P w K mg base (CX P w) 7 T.f_run_table T.d_run_table ["setting", "instructions"] (sp_run_wrong1 K T.C_NoSetting) := by
  refine T.F_run_table.okX sc_run_table (fun vs H Q E h => ?_) (fun cdv A outer s H vs Q E hr h => ?_)
  · obtain ⟨v, u, d, rfl, _⟩ := h
    rfl
  · obtain ⟨v, u, d, rfl, hv, hw, hd, q⟩ := h
    refine ⟨_, (pss_cons (ps_expr (pe_call (ok_check_setting__x T) (hr.mono (by decide)) rfl T.g_check_setting T.F_check_setting.kp T.b_check_setting .nil (passes_call (takes_of rfl rfl rfl rfl) (fun _ _ _ _ h => h)) (pa_cons (pv 0) pa_nil)))
      (pss_cons (ps_if (PW.pt (pw_or (pt_not (pt_val (pe_callB call_isi rfl T.z_isinstance boot_isinstance (pa_cons (pv 1) (pa_cons (pe_bltn (v := .ty "list") rfl T.z_list boot_list rfl) pa_nil))))) (pw_or1 (pt_not (pt_val (pe_callB (cr_all rfl) rfl T.z_all boot_all (pa_cons (pe_lc (own := [("thing", 2)]) (g := (gName 2)) (tt := tYes)  rfl sc_run_table.nd (pi_list (pv 1)) (blkOk_by (own := [("thing", 2)]) (N := ["setting", "instructions", "thing", "table", "number", "instruction"]) (sc := defScope s_run_table) (by decide +kernel)) (fun _ _ _ _ _ => (pg_name (i := 2) sc_run_table.nd rfl (Or.inl rfl))) (fun _ _ _ _ _ => pts_nil) (fun _ _ _ _ _ => (pe_call (ok_is_instruction T) (hr.mono (by decide)) rfl T.g_is_instruction T.F_is_instruction.kp T.b_is_instruction .nil pass0 (pa_cons (pv 2) pa_nil)))) pa_nil))))))) (pss_one (ps_raise rfl (takes_of rfl rfl rfl rfl) (pmk_own PySem.F.excBase_ValueError T.P_NoValue.x_ T.P_NoValue.g T.P_NoValue.k_ (raises_own T.P_NoValue.b_ T.P_NoValue.t_) rfl))) pss_nil)
      (pss_cons (ps_set (i := 3) sc_run_table.nd rfl (Or.inl rfl) (pe_make T.M_Table (ok_Table_init T) (hr.mono (by decide)) rfl T.g_Table T.b_Table_init .nil pass0 (pa_cons (pv 0) pa_nil)))
      (pss_cons (ps_for (passes_of rfl) rfl (pi_enum rfl T.z_enumerate (pa_cons (pv 1) pa_nil)) (pg_tup rfl (pgs_cons (pg_name (i := 4) sc_run_table.nd rfl (Or.inl rfl)) (pgs_cons (pg_name (i := 5) sc_run_table.nd rfl (Or.inl rfl)) pgs_nil)))
        (pss_one (ps_if (pt_not (pt_val (pe_meth (pv 3) T.cl_Table T.m_Table_carry_out (ok_Table_carry_out T) (hr.mono (by decide)) T.b_Table_carry_out .nil pass0 (pa_cons (pv 5) pa_nil)))) (pss_one (ps_raiseE rfl T.E_BadTable (ok_BadTable_init T) (hr.mono (by decide)) T.b_BadTable_init pass0 (takes_of rfl rfl rfl rfl) rfl (pa_cons (pv 4) pa_nil))) pss_nil)))
      (pss_one (ps_ret (pe_tup (pa_cons (pe_fld (pv 3) rfl) (pa_cons (pe_fld (pv 3) rfl) pa_nil))))))))), ?_⟩
    exact ⟨_, rfl, v, d, rfl, hv, hw, hd, q⟩
theorem ok_run_table__wb (T : Txt K mg) : FnOk P w K mg base (CX P w) 7 T.f_run_table T.d_run_table ["setting", "instructions"] (sp_run_wrong2 K T.C_NoValue) := by
  refine T.F_run_table.okX sc_run_table (fun vs H Q E h => ?_) (fun cdv A outer s H vs Q E hr h => ?_)
  · obtain ⟨v, u, F, r, w, d, rfl, _⟩ := h
    rfl
  · obtain ⟨v, u, F, r, w, d, rfl, hS, okS, hu, hw, hd, q⟩ := h
    refine ⟨_, (pss_cons (ps_expr (pe_call (ok_check_setting T) (hr.mono (by decide)) rfl T.g_check_setting T.F_check_setting.kp T.b_check_setting .nil (passes_call (takes_of rfl rfl rfl rfl) (fun _ _ _ _ h => h)) (pa_cons (pv 0) pa_nil)))
      (pss_cons (ps_if (PW.pt (pw_or (pt_not (pt_val (pe_callB call_isi rfl T.z_isinstance boot_isinstance (pa_cons (pv 1) (pa_cons (pe_bltn (v := .ty "list") rfl T.z_list boot_list rfl) pa_nil))))) (pw_or1 (pt_not (pt_val (pe_callB (cr_all rfl) rfl T.z_all boot_all (pa_cons (pe_lc (own := [("thing", 2)]) (g := (gName 2)) (tt := tYes)  rfl sc_run_table.nd (pi_list (pv 1)) (blkOk_by (own := [("thing", 2)]) (N := ["setting", "instructions", "thing", "table", "number", "instruction"]) (sc := defScope s_run_table) (by decide +kernel)) (fun _ _ _ _ _ => (pg_name (i := 2) sc_run_table.nd rfl (Or.inl rfl))) (fun _ _ _ _ _ => pts_nil) (fun _ _ _ _ _ => (pe_call (ok_is_instruction__v T) (hr.mono (by decide)) rfl T.g_is_instruction T.F_is_instruction.kp T.b_is_instruction .nil pass0 (pa_cons (pv 2) pa_nil)))) pa_nil))))))) (pss_one (ps_raise rfl (takes_of rfl rfl rfl rfl) (pmk_own PySem.F.excBase_ValueError T.P_NoValue.x_ T.P_NoValue.g T.P_NoValue.k_ (raises_own T.P_NoValue.b_ T.P_NoValue.t_) rfl))) pss_nil)
      (pss_cons (ps_set (i := 3) sc_run_table.nd rfl (Or.inl rfl) (pe_make T.M_Table (ok_Table_init T) (hr.mono (by decide)) rfl T.g_Table T.b_Table_init .nil pass0 (pa_cons (pv 0) pa_nil)))
      (pss_cons (ps_for (passes_of rfl) rfl (pi_enum rfl T.z_enumerate (pa_cons (pv 1) pa_nil)) (pg_tup rfl (pgs_cons (pg_name (i := 4) sc_run_table.nd rfl (Or.inl rfl)) (pgs_cons (pg_name (i := 5) sc_run_table.nd rfl (Or.inl rfl)) pgs_nil)))
        (pss_one (ps_if (pt_not (pt_val (pe_meth (pv 3) T.cl_Table T.m_Table_carry_out (ok_Table_carry_out T) (hr.mono (by decide)) T.b_Table_carry_out .nil pass0 (pa_cons (pv 5) pa_nil)))) (pss_one (ps_raiseE rfl T.E_BadTable (ok_BadTable_init T) (hr.mono (by decide)) T.b_BadTable_init pass0 (takes_of rfl rfl rfl rfl) rfl (pa_cons (pv 4) pa_nil))) pss_nil)))
      (pss_one (ps_ret (pe_tup (pa_cons (pe_fld (pv 3) rfl) (pa_cons (pe_fld (pv 3) rfl) pa_nil))))))))), ?_⟩
    refine ⟨_, rfl, v, F, r, w, rfl, hS, okS, fun H1 s1 => ?_⟩
    have hu1 := hu.keep s1
    have k := hu1.kind
    refine ⟨_, rfl, _, _, _, _, _, rfl, .ty _, k.ty, k.kit, _, rfl, ifb (fun e => ?_) (fun e => ?_)⟩
    · exact q H1 s1
    obtain ⟨a, xs, ds, rfl, rfl, hs, ha⟩ := hu1.asL (nb' e)
    have hlen := ha.len
    have hl := w_lstLen hw
    refine ⟨_, rfl, a, rfl, ⟨xs, hs⟩, fun C hC => ?_⟩
    refine lc_map (walk_list (xs := xs)) (fun j => V.bl (dIns (ds.getD j .none))) (by omega) hC (fun H' s' => s'.seq hs) ?_ ?_
    · rintro j x H' H'' Q' Z hj s' ⟨rfl, hx⟩ q'
      obtain ⟨d, hd2, hdv⟩ := ha.at hx
      refine ⟨rfl, yesI ⟨_, rfl, x, d, rfl, hdv.keep s', w_lst (List.mem_of_getElem? hd2) hw, fun H4 s4 => ?_⟩⟩
      have := q' H4 s4
      rw [getD_of .none hd2] at this
      exact this
    intro H2 s2 hC2
    refine ⟨C, ds.map dIns, rfl, .inl (.inl (by rw [hC2, tests_of dIns ha])), _, rfl, ?_⟩
    rw [all_id, show ds.all dIns = false from hd]
    exact ifT rfl (q _ (s1.trans s2))
theorem ok_run_table__all (T : Txt K mg) : FnOk P w K mg base (CX P w) 7 T.f_run_table T.d_run_table ["setting", "instructions"] (fun vs H Q E => sp_run_wrong1 K T.C_NoSetting vs H Q E ∨ sp_run_wrong2 K T.C_NoValue vs H Q E ∨ sp_run_table K T.C_BadTable vs H Q E) := FnOk_or (ok_run_table__wa T) (FnOk_or (ok_run_table__wb T) (ok_run_table T))

theorem ok_law_told (T : Txt K mg) : FnOk P w K mg base CX0 8 T.f_law_told T.d_law_told ["setting", "work"] (sp_told K) := by
  refine T.F_law_told.ok sc_law_told (fun vs H Q E h => ?_) (fun cdv A outer s H vs Q E hr h => ?_)
  · obtain ⟨v, u, rfl, _⟩ := h
    rfl
  · obtain ⟨v, u, rfl, h⟩ := h
    refine ⟨_, (pss_cons (ps_set (i := 2) sc_law_told.nd rfl (Or.inl rfl) pe_non)
      (pss_cons (ps_try_keep (i := 3) rfl rfl sc_law_told.nd rfl rfl ⟨rfl, rfl, .inl T.B_FieldError.g⟩ rfl takes0 (fun W pn xe tk hp =>
        (pss_one (ps_expr (pe_callS (ok_run_table__all T) (hr.mono (by decide)) rfl T.g_run_table T.F_run_table.kp T.b_run_table (fun σ => passAt tk σ) (pa_cons (pv 0) (pa_cons (pv 1) pa_nil)))))) (fun _ _ _ _ _ _ _ => (pss_one (ps_set (i := 2) sc_law_told.nd rfl (Or.inl rfl) (pv 3)))))
      (pss_cons (ps_if (pt_cmpR op_isN (pv 2) pe_non (nomark _)) (pss_one (ps_ret pe_str)) pss_nil)
      (pss_cons (ps_set (i := 4) sc_law_told.nd rfl (Or.inl rfl) (pe_lst (pa_cons (pe_callB call_isW rfl T.z_isinstance boot_isinstance (pa_cons (pv 2) (pa_cons (pe_glob (v := .ref T.C_NoSetting) rfl T.P_NoSetting.g rfl) pa_nil))) (pa_cons (pe_callB call_isW rfl T.z_isinstance boot_isinstance (pa_cons (pv 2) (pa_cons (pe_glob (v := .ref T.C_NoValue) rfl T.P_NoValue.g rfl) pa_nil))) (pa_cons (pe_callB call_isW rfl T.z_isinstance boot_isinstance (pa_cons (pv 2) (pa_cons (pe_glob (v := .ref T.C_BadTable) rfl T.E_BadTable.g rfl) pa_nil))) pa_nil)))))
      (pss_cons (ps_if (pt_cmpR op_ne (pe_bm PySem.F.plainAttrs_list PySem.F.slot_list_count PySem.F.type_list_count mt_cntB (pv 4) (pa_cons pe_bl pa_nil)) pe_int (nomark _)) (pss_one (ps_ret pe_str)) pss_nil)
      (pss_one (ps_ret (pe_ifExp (pt_val (pe_ix ix_list (pv 4) pe_int (fun _ _ => rfl))) (pe_tup (pa_cons pe_str (pa_cons (pe_xd (pv 2) rfl) pa_nil))) (pe_ix ix_list (pe_lst (pa_cons pe_str (pa_cons pe_str pa_nil))) (pe_bm PySem.F.plainAttrs_list PySem.F.slot_list_index PySem.F.type_list_index mt_index (pv 4) (pa_cons pe_bl pa_nil)) (fun _ _ => rfl)))))))))), ?_⟩
    refine ⟨_, rfl, _, rfl, ?_⟩
    have kSS := T.X_NoSetting.self T.U_NoSetting_NoSetting
    have kSV := T.X_NoValue.not T.U_NoSetting_NoValue T.U_NoValue_NoValue
    have kSB := T.X_BadTable.not T.U_NoSetting_BadTable T.U_BadTable_BadTable
    have kVS := T.X_NoSetting.not T.U_NoValue_NoSetting T.U_NoSetting_NoSetting
    have kVV := T.X_NoValue.self T.U_NoValue_NoValue
    have kVB := T.X_BadTable.not T.U_NoValue_BadTable T.U_BadTable_BadTable
    have kBS := T.X_NoSetting.not T.U_BadTable_NoSetting T.U_NoSetting_NoSetting
    have kBV := T.X_NoValue.not T.U_BadTable_NoValue T.U_NoValue_NoValue
    have kBB := T.X_BadTable.self T.U_BadTable_BadTable
    have eqB : ∀ x y : Bool, eqV (.bl x) (.bl y) = (x == y) := fun x y => by cases x <;> cases y <;> rfl
    rcases h with ⟨d, hv, hw, hd, q⟩ | ⟨F, r, w, d, hS, okS, hu, hw, hd, q⟩ | ⟨L, F, r, w, xs, is, rfl, hS, okS, hL, hi, oki, hl, q⟩
    · refine .inl ⟨v, u, d, rfl, hv, hw, hd, fun H1 s1 => ?_⟩
      refine ⟨true, T.R_FieldError.exm T.S_NoSetting, fun _ a na => ?_, fun z => nomatch z⟩
      refine ⟨_, rfl, fun na2 => ?_⟩
      have s2 := s1.trans (Same.new (o := ExK (.ref T.C_NoSetting) none a) na2)
      refine ⟨_, rfl, rfl, _, rfl, ifF rfl ?_⟩
      refine ⟨_, rfl, .inl (.inr ⟨a, T.C_NoSetting, _, _, true, rfl, upd_same, T.X_NoSetting.x, .own _, kSS, ?_⟩)⟩
      refine ⟨_, rfl, .inl (.inr ⟨a, T.C_NoSetting, _, _, false, rfl, upd_same, T.X_NoSetting.x, .own _, kSV, ?_⟩)⟩
      refine ⟨_, rfl, .inl (.inr ⟨a, T.C_NoSetting, _, _, false, rfl, upd_same, T.X_NoSetting.x, .own _, kSB, ?_⟩)⟩
      refine ⟨by show 3 ≤ sizeLine; decide, fun l hl => ?_⟩
      have sq : SqL K (upd (upd H1 a (ExK (.ref T.C_NoSetting) none a)) l (.lst [.bl true, .bl false, .bl false])) l [.bl true, .bl false, .bl false] := SqL.of upd_same
      have s3 := s2.trans (Same.new (o := .lst [.bl true, .bl false, .bl false]) hl)
      refine ⟨_, rfl, .inl ⟨rfl, _, sq⟩, l, [true, false, false], rfl, rfl, sq, rfl, _, rfl, ifF rfl ?_⟩
      refine ⟨_, rfl, _, _, _, _, rfl, rfl, sq, rfl, _, rfl, ifF rfl ?_⟩
      refine ⟨by show 2 ≤ sizeLine; decide, fun l2 hl2 => ?_⟩
      have s4 := Same.new (o := .lst [.str "setting", .str "value"]) hl2
      refine ⟨_, rfl, .inl ⟨rfl, _, s4.seq sq⟩, l, _, .bl true, 0, .bl true, rfl, rfl, s4.seq sq, rfl, rfl, rfl, rfl, fun m z hm => absurd hm (Nat.not_lt_zero m), ?_⟩
      exact ⟨l2, _, _, _, rfl, rfl, SqL.of upd_same, rfl, q _ (s3.trans s4)⟩
    · refine (.inr (.inl ⟨v, u, F, r, w, d, rfl, hS, okS, hu, hw, hd, fun H1 s1 => ?_⟩))
      refine ⟨true, T.R_FieldError.exm T.S_NoValue, fun _ a na => ?_, fun z => nomatch z⟩
      refine ⟨_, rfl, fun na2 => ?_⟩
      have s2 := s1.trans (Same.new (o := ExK (.ref T.C_NoValue) none a) na2)
      refine ⟨_, rfl, rfl, _, rfl, ifF rfl ?_⟩
      refine ⟨_, rfl, .inl (.inr ⟨a, T.C_NoValue, _, _, false, rfl, upd_same, T.X_NoValue.x, .own _, kVS, ?_⟩)⟩
      refine ⟨_, rfl, .inl (.inr ⟨a, T.C_NoValue, _, _, true, rfl, upd_same, T.X_NoValue.x, .own _, kVV, ?_⟩)⟩
      refine ⟨_, rfl, .inl (.inr ⟨a, T.C_NoValue, _, _, false, rfl, upd_same, T.X_NoValue.x, .own _, kVB, ?_⟩)⟩
      refine ⟨by show 3 ≤ sizeLine; decide, fun l hl => ?_⟩
      have sq : SqL K (upd (upd H1 a (ExK (.ref T.C_NoValue) none a)) l (.lst [.bl false, .bl true, .bl false])) l [.bl false, .bl true, .bl false] := SqL.of upd_same
      have s3 := s2.trans (Same.new (o := .lst [.bl false, .bl true, .bl false]) hl)
      refine ⟨_, rfl, .inl ⟨rfl, _, sq⟩, l, [false, true, false], rfl, rfl, sq, rfl, _, rfl, ifF rfl ?_⟩
      refine ⟨_, rfl, _, _, _, _, rfl, rfl, sq, rfl, _, rfl, ifF rfl ?_⟩
      refine ⟨by show 2 ≤ sizeLine; decide, fun l2 hl2 => ?_⟩
      have s4 := Same.new (o := .lst [.str "setting", .str "value"]) hl2
      refine ⟨_, rfl, .inl ⟨rfl, _, s4.seq sq⟩, l, _, .bl true, 1, .bl true, rfl, rfl, s4.seq sq, rfl, rfl, rfl, rfl, fun m z hm hz => ?_, ?_⟩
      · obtain rfl : m = 0 := by omega
        cases hz; rfl
      exact ⟨l2, _, _, _, rfl, rfl, SqL.of upd_same, rfl, q _ (s3.trans s4)⟩
    · cases hrun : runT F r (tb0 r) 0 is with
      | ok t =>
        rw [hrun] at q
        refine .inr (.inr ⟨v, L, F, r, w, xs, is, rfl, hS, okS, hL, hi, oki, hl, ?_⟩)
        rw [hrun]
        refine fun D o H1 hD ho s1 gO hE => ?_
        exact ⟨_, rfl, rfl, _, rfl, ifT rfl (q _ _ s1 (.str _))⟩
      | error k =>
        rw [hrun] at q
        refine .inr (.inr ⟨v, L, F, r, w, xs, is, rfl, hS, okS, hL, hi, oki, hl, ?_⟩)
        rw [hrun]
        refine fun d H1 s1 gd => ?_
        refine ⟨true, T.R_FieldError.exm T.S_BadTable, fun _ a na => ?_, fun z => nomatch z⟩
        refine ⟨_, rfl, fun na2 => ?_⟩
        have sA := Same.new (o := ExK (.ref T.C_BadTable) (some d) a) na2
        have s2 := s1.trans sA
        have hE : ErrD (upd H1 a (ExK (.ref T.C_BadTable) (some d) a)) a T.C_BadTable [("number", .int (k : Nat))] := ⟨d, upd_same, sA _ _ gd⟩
        refine ⟨_, rfl, rfl, _, rfl, ifF rfl ?_⟩
        refine ⟨_, rfl, .inr ⟨a, T.C_BadTable, _, _, _, false, rfl, hE, T.X_BadTable.x, .own _, kBS, ?_⟩⟩
        refine ⟨_, rfl, .inr ⟨a, T.C_BadTable, _, _, _, false, rfl, hE, T.X_BadTable.x, .own _, kBV, ?_⟩⟩
        refine ⟨_, rfl, .inr ⟨a, T.C_BadTable, _, _, _, true, rfl, hE, T.X_BadTable.x, .own _, kBB, ?_⟩⟩
        refine ⟨by show 3 ≤ sizeLine; decide, fun l hl => ?_⟩
        have sL := Same.new (o := .lst [.bl false, .bl false, .bl true]) hl
        have hE3 : ErrD (upd (upd H1 a (ExK (.ref T.C_BadTable) (some d) a)) l (.lst [.bl false, .bl false, .bl true])) a T.C_BadTable [("number", .int (k : Nat))] := by
          obtain ⟨d', h1, h2⟩ := hE
          exact ⟨d', sL _ _ h1, sL _ _ h2⟩
        have sq : SqL K (upd (upd H1 a (ExK (.ref T.C_BadTable) (some d) a)) l (.lst [.bl false, .bl false, .bl true])) l [.bl false, .bl false, .bl true] := SqL.of upd_same
        have s3 := s2.trans sL
        refine ⟨_, rfl, .inl ⟨rfl, _, sq⟩, l, [false, false, true], rfl, rfl, sq, rfl, _, rfl, ifF rfl ?_⟩
        refine ⟨_, rfl, _, _, _, _, rfl, rfl, sq, rfl, _, rfl, ifT rfl ?_⟩
        refine ⟨_, rfl, a, T.C_BadTable, _, _, rfl, xfc_of T.X_BadTable.x, T.E_BadTable.no, hE3, rfl, by show 2 ≤ sizeLine; decide, fun tp htp => ?_⟩
        exact q _ _ (s3.trans (Same.new htp)) (.tup (SqT.of upd_same) (.cons (.str _) (.cons (.int _) .nil)))

theorem ok_law_due (T : Txt K mg) : FnOk P w K mg base CX0 4 T.f_law_due T.d_law_due ["setting", "work"] (sp_due K) := by
  refine T.F_law_due.ok sc_law_due (fun vs H Q E h => ?_) (fun cdv A outer s H vs Q E hr h => ?_)
  · obtain ⟨v, L, F, r, w, xs, is, rfl, _⟩ := h
    rfl
  · obtain ⟨v, L, F, r, w, xs, is, rfl, hS, okS, hL, hi, oki, hl, q⟩ := h
    refine ⟨_, (pss_cons (ps_set (i := 2) sc_law_due.nd rfl (Or.inl rfl) (pe_tup (pa_cons pe_dnewK (pa_cons pe_int (pa_cons (pe_ix ix_tup (pv 0) pe_int (fun _ _ => rfl)) pa_nil)))))
      (pss_cons (ps_for PassesOwn.never rfl (pi_enum rfl T.z_enumerate (pa_cons (pv 1) pa_nil)) (pg_tup rfl (pgs_cons (pg_name (i := 3) sc_law_due.nd rfl (Or.inl rfl)) (pgs_cons (pg_name (i := 4) sc_law_due.nd rfl (Or.inl rfl)) pgs_nil)))
        (pss_cons (ps_set (i := 2) sc_law_due.nd rfl (Or.inl rfl) (pe_call (ok_law_carried T) (hr.mono (by decide)) rfl T.g_law_carried T.F_law_carried.kp T.b_law_carried .nil pass0 (pa_cons (pv 0) (pa_cons (pv 2) (pa_cons (pv 4) pa_nil)))))
      (pss_one (ps_if (pt_cmpR op_isN (pv 2) pe_non (nomark _)) (pss_one (ps_ret (pe_tup (pa_cons pe_str (pa_cons (pv 3) pa_nil))))) pss_nil))))
      (pss_one (ps_ret pe_str)))), ?_⟩
    refine fun D0 hD0 => ?_
    have s1 := Same.new (o := .dK []) hD0
    obtain ⟨sa, ft, fx, esv, g1, g2, g3⟩ := hS.ts (.of s1)
    refine ⟨_, rfl, _, _, _, _, esv, rfl, g1, rfl, by show 3 ≤ sizeLine; decide, fun st hst => ?_⟩
    have s2 := Same.new (o := .tup [.ref D0, .int 0, .int (r : Nat)]) hst
    have hT2 : StV K (upd (upd H D0 (.dK [])) st (.tup [.ref D0, .int 0, .int (r : Nat)])) (.ref st) (tb0 r) := ⟨st, D0, rfl, SqT.of upd_same, [], s2 _ _ upd_same, .nil⟩
    have s12 := s1.trans s2
    show tSeq _ _ _ _ (upd (upd H D0 (.dK [])) st (.tup [.ref D0, .int 0, .int (r : Nat)]))
    generalize upd (upd H D0 (.dK [])) st (.tup [.ref D0, .int 0, .int (r : Nat)]) = H2 at hT2 s12 ⊢
    refine ⟨_, rfl, L, xs, rfl, s12.seq hL, ?_⟩
    refine for_it (walk_enum (K := K) (a := L) (xs := xs)) (fun j σ H' => ∃ (v3 v4 : Option V) (stv : V) (t : Tb), σ = [some v, some (.ref L), some stv, v3, v4] ∧ Same H H' ∧ StV K H' stv t ∧ TbOk r t ∧ t.made ≤ j ∧ runT F r (tb0 r) 0 is = runT F r t j (is.drop j)) ⟨_, _, _, tb0 r, rfl, s12, hT2, tb0_ok okS.r, Nat.le_refl _, rfl⟩ (fun j σ H' _ ⟨_, _, _, _, _, s', _⟩ => s'.seq hL) ?_ ?_
    · rintro j y σ H4 H4' hj ⟨v3, v4, stv, t, rfl, s4, hT4, ok4, hmd, hrun⟩ ⟨tp, z1, z2, rfl, htp, rfl, e1, e2⟩
      cases e1
      obtain ⟨i, hi2, hiv⟩ := p_at hi e2
      have oki2 := oki i (List.mem_of_getElem? hi2)
      have s5 := s4.trans (Same.new (o := .tup [.int (j : Nat), z2]) htp)
      have hT5 := hT4.same (Same.new (o := .tup [.int (j : Nat), z2]) htp)
      refine ⟨tp, _, rfl, SqT.of upd_same, rfl, _, _, rfl, _, _, rfl, rfl, ?_⟩
      have hdr : is.drop j = i :: is.drop (j + 1) := by
        obtain ⟨hlt, he⟩ := List.getElem?_eq_some_iff.mp hi2
        rw [List.drop_eq_getElem_cons hlt, he]
      have hj1000 : j < 1000 := by have := (List.getElem?_eq_some_iff.mp hi2).1; omega
      refine ⟨_, rfl, _, rfl, _, rfl, v, stv, z2, F, r, w, t, i, rfl, hS.ts (.of s5), okS, hT5, ok4, by omega, hiv.ts (.of s5), oki2, ?_⟩
      rw [hdr, runT] at hrun
      cases hst2 : stepT F r t i with
      | none =>
        rw [hst2] at hrun
        refine fun H6 s6 => ?_
        refine ⟨_, rfl, rfl, _, rfl, ifT rfl ?_⟩
        rw [hrun] at q
        refine ⟨_, rfl, by show 2 ≤ sizeLine; decide, fun tq htq => ?_⟩
        exact q _ _ ((s5.trans s6).trans (Same.new htq)) (.tup (SqT.of upd_same) (.cons (.str _) (.cons (.int _) .nil)))
      | some t' =>
        rw [hst2] at hrun
        refine fun v6 H6 s6 hT6 => ?_
        obtain ⟨a6, D6, rfl, _⟩ := id hT6
        refine ⟨_, rfl, rfl, _, rfl, ifF rfl ?_⟩
        exact ⟨_, _, _, t', rfl, s5.trans s6, hT6, ok4.step okS.fd oki2 hst2, by have := step_made hst2; omega, hrun⟩
    · rintro σ H4 ⟨v3, v4, stv, t, rfl, s4, hT4, ok4, hmd, hrun⟩
      rw [List.drop_of_length_le (by have := p_len hi; omega), runT] at hrun
      rw [hrun] at q
      exact q _ _ s4 (.str _)

theorem slN {K : PySem.W.Frag} {σ : L2.St} {H : Hp} {v : V} {l : Option Int} {Q : VK} (h : rSlA K v l none H Q) : tNoPart σ H (fun u H3 => rSlA K v l u H3 Q) := h
theorem ok_law_wrong_setting (T : Txt K mg) : FnOk P w K mg base CX0 4 T.f_law_wrong_setting T.d_law_wrong_setting ["pen", "setting"] (sp_wrong_setting K) := by
  refine T.F_law_wrong_setting.ok sc_law_wrong_setting (fun vs H Q E h => ?_) (fun cdv A outer s H vs Q E hr h => ?_)
  · obtain ⟨p, c, n, v, F, r, w, rfl, _⟩ := h
    rfl
  · obtain ⟨p, c, n, v, F, r, w, rfl, hp, hn, hS, okS, q⟩ := h
    refine ⟨_, (pss_cons (ps_asg (pv 1) (pg_tup rfl (pgs_cons (pg_name (i := 2) sc_law_wrong_setting.nd rfl (Or.inl rfl)) (pgs_cons (pg_name (i := 3) sc_law_wrong_setting.nd rfl (Or.inl rfl)) (pgs_cons (pg_name (i := 4) sc_law_wrong_setting.nd rfl (Or.inl rfl)) pgs_nil)))))
      (pss_cons (ps_set (i := 5) sc_law_wrong_setting.nd rfl (Or.inl rfl) (pe_lst (pa_cons pe_non (pa_cons (pe_tup pa_nil) (pa_cons (pe_lst pa_nil) (pa_cons pe_dnewK (pa_cons pe_int (pa_cons (pe_callTy call_list_of rfl T.z_list boot_list (pa_cons (pv 1) pa_nil)) (pa_cons (pe_tup (pa_cons (pv 2) (pa_cons (pv 3) pa_nil))) (pa_cons (pe_tup (pa_cons (pe_callTy call_list_of rfl T.z_list boot_list (pa_cons (pv 2) pa_nil)) (pa_cons (pv 3) (pa_cons (pv 4) pa_nil)))) (pa_cons (pe_tup (pa_cons (pv 2) (pa_cons (pe_un un_neg pe_int) (pa_cons (pv 4) pa_nil)))) pa_nil)))))))))))
      (pss_cons (ps_set (i := 5) sc_law_wrong_setting.nd rfl (Or.inl rfl) (pe_op op_cat (pv 5) (pe_lst (pa_cons (pe_tup (pa_cons (pv 2) (pa_cons pe_int (pa_cons (pv 4) pa_nil)))) (pa_cons (pe_tup (pa_cons (pv 2) (pa_cons (pv 3) (pa_cons pe_int pa_nil)))) (pa_cons (pe_tup (pa_cons (pv 2) (pa_cons (pv 3) (pa_cons (pe_un un_neg pe_int) pa_nil)))) (pa_cons (pe_tup (pa_cons (pv 2) (pa_cons pe_bl (pa_cons pe_int pa_nil)))) (pa_cons (pe_tup (pa_cons (pv 2) (pa_cons (pv 3) (pa_cons pe_non pa_nil)))) pa_nil))))))))
      (pss_cons (ps_par (i := 6) (j := 7) rfl sc_law_wrong_setting.nd rfl rfl (by decide) rfl rfl (pa_cons (pe_call (ok_law_take T) (hr.mono (by decide)) rfl T.g_law_take T.F_law_take.kp T.b_law_take .nil pass0 (pa_cons (pv 0) (pa_cons (pe_op op_add (pe_callB call_len rfl T.z_len boot_len (pa_cons (pv 2) pa_nil)) pe_int) pa_nil))) (pa_cons (pe_call (ok_law_one_of T) (hr.mono (by decide)) rfl T.g_law_one_of T.F_law_one_of.kp T.b_law_one_of .nil pass0 (pa_cons (pv 0) (pa_cons (pe_lst (pa_cons (pe_tup (pa_cons pe_str (pa_cons pe_str pa_nil))) (pa_cons (pe_tup (pa_cons pe_str (pa_cons pe_str pa_nil))) (pa_cons (pe_tup (pa_cons pe_str (pa_cons pe_str pa_nil))) (pa_cons (pe_tup (pa_cons pe_str pa_nil)) (pa_cons pe_non (pa_cons pe_str pa_nil))))))) pa_nil))) pa_nil)) (by rfl))
      (Evl.pss_cut (ps_set (i := 8) sc_law_wrong_setting.nd rfl (Or.inl rfl) (pe_tup (pa_cons (pe_ifExp (pt_cmpR op_lt (pv 6) pe_int (nomark _)) (pe_slice sl_tupA (pe_op op_catA (pe_op op_catA (pe_slice sl_tupA (pv 2) po_none (po_some (pv 6))) (pe_tup (pa_cons (pv 7) pa_nil))) (pe_slice sl_tupA (pv 2) (po_some (pv 6)) po_none)) po_none (po_some pe_int)) (pe_tup (pa_cons (pv 7) pa_nil))) (pa_cons (pv 3) (pa_cons (pv 4) pa_nil)))))
      (pss_one (ps_ret (pe_call (ok_law_one_of T) (hr.mono (by decide)) rfl T.g_law_one_of T.F_law_one_of.kp T.b_law_one_of .nil pass0 (pa_cons (pv 0) (pa_cons (pe_op op_cat (pv 5) (pe_lst (pa_cons (pv 8) (pa_cons (pv 8) (pa_cons (pv 8) (pa_cons (pv 8) (pa_cons (pe_tup (pa_cons (pe_op op_repT (pe_tup (pa_cons (pe_tup (pa_cons pe_str (pa_cons pe_str pa_nil))) pa_nil)) pe_int) (pa_cons (pv 3) (pa_cons (pv 4) pa_nil)))) pa_nil))))))) pa_nil)))))))))), ?_⟩
    obtain ⟨sa, ft, fx, rfl, g1, g2, g3⟩ := id hS
    refine ⟨_, rfl, sa, _, rfl, g1, rfl, ⟨_, _, rfl, ⟨_, _, rfl, ⟨_, _, rfl, rfl, ?_⟩⟩⟩⟩
    have hlF := p_len g3
    have hF12 := okS.len
    obtain ⟨⟨xp, gp⟩, _⟩ := hp.some
    have hid : Hid [p] H := Hid.one hp
    have vf : Dv K (OffS [p] H) (.ref ft) (fdsD F) := .ofDp (.tup ((ts_off gp).tup g2) (FdsV.dp (g3.ts (ts_off gp))))
    have af : DvAll K (OffS [p] H) fx (F.map fdat) := .ofDp (FdsV.dp (g3.ts (ts_off gp)))
    -- some = [..]
    refine ⟨by show 0 ≤ sizeLine; decide, fun a1 h1 => ?_⟩
    have s1 := Same.new (o := .tup []) h1
    have e1 : Dv K (OffS [p] (upd H a1 (.tup []))) (.ref a1) (.tuple []) := new_tup h1 hid .nil
    have hid1 := hid.keep s1
    generalize upd H a1 (.tup []) = H1 at s1 e1 hid1 ⊢
    refine ⟨by show 0 ≤ sizeLine; decide, fun a2 h2 => ?_⟩
    have s2 := Same.new (o := .lst []) h2
    have e2 : Dv K (OffS [p] (upd H1 a2 (.lst []))) (.ref a2) (.list []) := new_lst h2 hid1 .nil
    have hid2 := hid1.keep s2
    generalize upd H1 a2 (.lst []) = H2 at s2 e2 hid2 ⊢
    refine fun a3 h3 => ?_
    have s3 := Same.new (o := .dK []) h3
    have e3 : Dv K (OffS [p] (upd H2 a3 (.dK []))) (.ref a3) (.dict []) := new_dic h3 hid2
    have hid3 := hid2.keep s3
    generalize upd H2 a3 (.dK []) = H3 at s3 e3 hid3 ⊢
    have s03 := (s1.trans s2).trans s3
    refine ⟨_, rfl, sa, _, rfl, .inr (s03.tup g1), fun a4 h4 => ?_⟩
    have s4 := Same.new (o := .lst [.ref ft, .int (r : Nat), .int (w : Nat)]) h4
    have e4 : Dv K (OffS [p] (upd H3 a4 (.lst [.ref ft, .int (r : Nat), .int (w : Nat)]))) (.ref a4) (.list [fdsD F, .int (r : Nat), .int (w : Nat)]) := new_lst h4 hid3 (.cons (vf.keep s03.off) (.cons (.int _) (.cons (.int _) .nil)))
    have hid4 := hid3.keep s4
    generalize upd H3 a4 (.lst [.ref ft, .int (r : Nat), .int (w : Nat)]) = H4 at s4 e4 hid4 ⊢
    have s04 := s03.trans s4
    refine ⟨_, rfl, _, rfl, by show 2 ≤ sizeLine; decide, fun a5 h5 => ?_⟩
    have s5 := Same.new (o := .tup [.ref ft, .int (r : Nat)]) h5
    have e5 : Dv K (OffS [p] (upd H4 a5 (.tup [.ref ft, .int (r : Nat)]))) (.ref a5) (.tuple [fdsD F, .int (r : Nat)]) := new_tup h5 hid4 (.cons (vf.keep s04.off) (.cons (.int _) .nil))
    have hid5 := hid4.keep s5
    generalize upd H4 a5 (.tup [.ref ft, .int (r : Nat)]) = H5 at s5 e5 hid5 ⊢
    have s05 := s04.trans s5
    refine ⟨_, rfl, ft, _, rfl, .inr (s05.tup g2), fun a6 h6 => ?_⟩
    have s6 := Same.new (o := .lst fx) h6
    have e6 : Dv K (OffS [p] (upd H5 a6 (.lst fx))) (.ref a6) (fdsL F) := new_lst h6 hid5 (af.keep s05.off)
    have hid6 := hid5.keep s6
    generalize upd H5 a6 (.lst fx) = H6 at s6 e6 hid6 ⊢
    refine ⟨_, rfl, _, rfl, by show 3 ≤ sizeLine; decide, fun a7 h7 => ?_⟩
    have s7 := Same.new (o := .tup [.ref a6, .int (r : Nat), .int (w : Nat)]) h7
    have e7 : Dv K (OffS [p] (upd H6 a7 (.tup [.ref a6, .int (r : Nat), .int (w : Nat)]))) (.ref a7) (.tuple [fdsL F, .int (r : Nat), .int (w : Nat)]) := new_tup h7 hid6 (.cons e6 (.cons (.int _) (.cons (.int _) .nil)))
    have hid7 := hid6.keep s7
    generalize upd H6 a7 (.tup [.ref a6, .int (r : Nat), .int (w : Nat)]) = H7 at s7 e7 hid7 ⊢
    have s07 := (s05.trans s6).trans s7
    refine ⟨_, rfl, _, rfl, _, rfl, by show 3 ≤ sizeLine; decide, fun a8 h8 => ?_⟩
    have s8 := Same.new (o := .tup [.ref ft, .int (-1), .int (w : Nat)]) h8
    have e8 : Dv K (OffS [p] (upd H7 a8 (.tup [.ref ft, .int (-1), .int (w : Nat)]))) (.ref a8) (.tuple [fdsD F, .int (-1), .int (w : Nat)]) := new_tup h8 hid7 (.cons (vf.keep s07.off) (.cons (.int _) (.cons (.int _) .nil)))
    have hid8 := hid7.keep s8
    have t78 := s8
    have t68 := s7.trans t78
    have t58 := s6.trans t68
    have t48 := s5.trans t58
    have t38 := s4.trans t48
    have t28 := s3.trans t38
    have t18 := s2.trans t28
    have all1 : DvAll K (OffS [p] (upd H7 a8 (.tup [.ref ft, .int (-1), .int (w : Nat)]))) [.non, .ref a1, .ref a2, .ref a3, .int 7, .ref a4, .ref a5, .ref a7, .ref a8] (bads1 F r w) :=
      .cons .non (.cons (e1.keep t18.off) (.cons (e2.keep t28.off) (.cons (e3.keep t38.off) (.cons (.int _) (.cons (e4.keep t48.off) (.cons (e5.keep t58.off) (.cons (e7.keep t78.off) (.cons e8 .nil))))))))
    clear e1 e2 e3 e4 e5 e6 e7 e8
    have s08 := s07.trans s8
    generalize upd H7 a8 (.tup [.ref ft, .int (-1), .int (w : Nat)]) = H8 at s08 all1 hid8 ⊢
    clear t18 t28 t38 t48 t58 t68 t78 s8 s07 s7 s6 s05 s5 s04 s4 s03 s3 s2 s1 hid1 hid2 hid3 hid4 hid5 hid6 hid7
    refine ⟨by show 9 ≤ sizeLine; decide, fun L1 hL1 => ?_⟩
    have s9 := Same.new (o := .lst [.non, .ref a1, .ref a2, .ref a3, .int 7, .ref a4, .ref a5, .ref a7, .ref a8]) hL1
    have gL1 : upd H8 L1 (.lst [.non, .ref a1, .ref a2, .ref a3, .int 7, .ref a4, .ref a5, .ref a7, .ref a8]) L1 = some (.lst [.non, .ref a1, .ref a2, .ref a3, .int 7, .ref a4, .ref a5, .ref a7, .ref a8]) := upd_same
    have all1' := all1.keep s9.off
    have hid9 := hid8.keep s9
    have s09 := s08.trans s9
    show tSeq _ _ _ _ (upd H8 L1 (.lst [.non, .ref a1, .ref a2, .ref a3, .int 7, .ref a4, .ref a5, .ref a7, .ref a8]))
    generalize upd H8 L1 (.lst [.non, .ref a1, .ref a2, .ref a3, .int 7, .ref a4, .ref a5, .ref a7, .ref a8]) = H9 at s09 all1' hid9 gL1 ⊢
    generalize hys : [V.non, .ref a1, .ref a2, .ref a3, .int 7, .ref a4, .ref a5, .ref a7, .ref a8] = ys at all1' gL1 ⊢
    clear all1 s9 hid8 s08
    have hyl : ys.length = 9 := by rw [← hys]; rfl
    -- some = some + [..]
    refine ⟨_, rfl, _, rfl, _, rfl, by show 3 ≤ sizeLine; decide, fun b1 h1 => ?_⟩
    have s1 := Same.new (o := .tup [.ref ft, .int 121, .int (w : Nat)]) h1
    have e1 : Dv K (OffS [p] (upd H9 b1 (.tup [.ref ft, .int 121, .int (w : Nat)]))) (.ref b1) (.tuple [fdsD F, .int 121, .int (w : Nat)]) := new_tup h1 hid9 (.cons (vf.keep s09.off) (.cons (.int _) (.cons (.int _) .nil)))
    have hid1 := hid9.keep s1
    generalize upd H9 b1 (.tup [.ref ft, .int 121, .int (w : Nat)]) = H1 at s1 e1 hid1 ⊢
    have u1 := s09.trans s1
    refine ⟨_, rfl, _, rfl, by show 3 ≤ sizeLine; decide, fun b2 h2 => ?_⟩
    have s2 := Same.new (o := .tup [.ref ft, .int (r : Nat), .int 5]) h2
    have e2 : Dv K (OffS [p] (upd H1 b2 (.tup [.ref ft, .int (r : Nat), .int 5]))) (.ref b2) (.tuple [fdsD F, .int (r : Nat), .int 5]) := new_tup h2 hid1 (.cons (vf.keep u1.off) (.cons (.int _) (.cons (.int _) .nil)))
    have hid2 := hid1.keep s2
    generalize upd H1 b2 (.tup [.ref ft, .int (r : Nat), .int 5]) = H2 at s2 e2 hid2 ⊢
    have u2 := u1.trans s2
    refine ⟨_, rfl, _, rfl, _, rfl, by show 3 ≤ sizeLine; decide, fun b3 h3 => ?_⟩
    have s3 := Same.new (o := .tup [.ref ft, .int (r : Nat), .int (-1)]) h3
    have e3 : Dv K (OffS [p] (upd H2 b3 (.tup [.ref ft, .int (r : Nat), .int (-1)]))) (.ref b3) (.tuple [fdsD F, .int (r : Nat), .int (-1)]) := new_tup h3 hid2 (.cons (vf.keep u2.off) (.cons (.int _) (.cons (.int _) .nil)))
    have hid3 := hid2.keep s3
    generalize upd H2 b3 (.tup [.ref ft, .int (r : Nat), .int (-1)]) = H3 at s3 e3 hid3 ⊢
    have u3 := u2.trans s3
    refine ⟨_, rfl, by show 3 ≤ sizeLine; decide, fun b4 h4 => ?_⟩
    have s4 := Same.new (o := .tup [.ref ft, .bl true, .int 0]) h4
    have e4 : Dv K (OffS [p] (upd H3 b4 (.tup [.ref ft, .bl true, .int 0]))) (.ref b4) (.tuple [fdsD F, .bool true, .int 0]) := new_tup h4 hid3 (.cons (vf.keep u3.off) (.cons (.bl _) (.cons (.int _) .nil)))
    have hid4 := hid3.keep s4
    generalize upd H3 b4 (.tup [.ref ft, .bl true, .int 0]) = H4 at s4 e4 hid4 ⊢
    have u4 := u3.trans s4
    refine ⟨_, rfl, _, rfl, by show 3 ≤ sizeLine; decide, fun b5 h5 => ?_⟩
    have s5 := Same.new (o := .tup [.ref ft, .int (r : Nat), .non]) h5
    have e5 : Dv K (OffS [p] (upd H4 b5 (.tup [.ref ft, .int (r : Nat), .non]))) (.ref b5) (.tuple [fdsD F, .int (r : Nat), .none]) := new_tup h5 hid4 (.cons (vf.keep u4.off) (.cons (.int _) (.cons .non .nil)))
    have hid5 := hid4.keep s5
    have v4 := s5
    have v3 := s4.trans v4
    have v2 := s3.trans v3
    have v1 := s2.trans v2
    have all2 : DvAll K (OffS [p] (upd H4 b5 (.tup [.ref ft, .int (r : Nat), .non]))) [.ref b1, .ref b2, .ref b3, .ref b4, .ref b5] (bads2 F r w) := .cons (e1.keep v1.off) (.cons (e2.keep v2.off) (.cons (e3.keep v3.off) (.cons (e4.keep v4.off) (.cons e5 .nil))))
    have s95 := s1.trans v1
    have u5 := u4.trans s5
    generalize upd H4 b5 (.tup [.ref ft, .int (r : Nat), .non]) = H5 at s95 all2 hid5 u5 ⊢
    refine ⟨by show 5 ≤ sizeLine; decide, fun L2 hL2 => ?_⟩
    have s6 := Same.new (o := .lst [.ref b1, .ref b2, .ref b3, .ref b4, .ref b5]) hL2
    refine ⟨L1, L2, ys, _, rfl, rfl, s6 _ _ (s95 _ _ gL1), upd_same, by rw [hyl]; show 9 + 5 ≤ sizeLine; decide, fun L3 hL3 => ?_⟩
    have s7 := Same.new (o := .lst (ys ++ [.ref b1, .ref b2, .ref b3, .ref b4, .ref b5])) hL3
    have all3 : DvAll K (OffS [p] (upd (upd H5 L2 (.lst [.ref b1, .ref b2, .ref b3, .ref b4, .ref b5])) L3 (.lst (ys ++ [.ref b1, .ref b2, .ref b3, .ref b4, .ref b5])))) (ys ++ [.ref b1, .ref b2, .ref b3, .ref b4, .ref b5]) (bads1 F r w ++ bads2 F r w) := (all1'.keep ((s95.trans s6).trans s7).off).app (all2.keep (s6.trans s7).off)
    have gL3 : upd (upd H5 L2 (.lst [.ref b1, .ref b2, .ref b3, .ref b4, .ref b5])) L3 (.lst (ys ++ [.ref b1, .ref b2, .ref b3, .ref b4, .ref b5])) L3 = some (.lst (ys ++ [.ref b1, .ref b2, .ref b3, .ref b4, .ref b5])) := upd_same
    have hid7 := (hid5.keep s6).keep s7
    have u7 := (u5.trans s6).trans s7
    have hL3H : H L3 = none := (u5.trans s6).free hL3
    have hzl : (ys ++ [V.ref b1, .ref b2, .ref b3, .ref b4, .ref b5]).length = 14 := by rw [List.length_append, hyl]; rfl
    show tSeq _ _ _ _ (upd (upd H5 L2 (.lst [.ref b1, .ref b2, .ref b3, .ref b4, .ref b5])) L3 (.lst (ys ++ [.ref b1, .ref b2, .ref b3, .ref b4, .ref b5])))
    generalize upd (upd H5 L2 (.lst [.ref b1, .ref b2, .ref b3, .ref b4, .ref b5])) L3 (.lst (ys ++ [.ref b1, .ref b2, .ref b3, .ref b4, .ref b5])) = H7 at all3 gL3 hid7 u7 ⊢
    generalize ys ++ [V.ref b1, .ref b2, .ref b3, .ref b4, .ref b5] = zs at all3 gL3 hzl ⊢
    clear all1' all2 e1 e2 e3 e4 e5 s1 s2 s3 s4 s5 s6 s7 v1 v2 v3 v4 s95 u1 u2 u3 u4 u5 hid1 hid2 hid3 hid4 hid5 hid9 gL1 s09
    -- spot, odd
    refine ⟨_, rfl, _, rfl, _, _, rfl, .inr ⟨_, u7.tup g2, rfl⟩, _, _, rfl, rfl, p, c, _, _, rfl, hp.keep u7, by omega, by omega, by omega, fun k H8 hk0 hk1 d8 => ?_⟩
    obtain ⟨k, rfl⟩ : ∃ k' : Nat, k = (k' : Int) := ⟨k.toNat, by omega⟩
    have hk1' : k ≤ F.length := by omega
    have P8 := d8.pen
    have all8 := all3.keep (d8.off (List.mem_singleton.mpr rfl))
    have hid8 := hid7.drew d8
    have gp7 : ∃ y, H7 p = some (.lst y) := (hp.keep u7).some.1
    have hL3p : L3 ≠ p := fun z => by obtain ⟨y, e⟩ := hp.some.1; rw [z, e] at hL3H; cases hL3H
    have gL8 := d8.but _ _ hL3p gL3
    have vf8 := (vf.keep u7.off).keep (d8.off (S := [p]) (List.mem_singleton.mpr rfl))
    have b08 : But p H H8 := (But.of u7).trans d8.but
    clear all3 hid7 gL3 vf af
    -- odd
    refine ⟨_, rfl, by show 2 ≤ sizeLine; decide, fun t1 ht1 => ?_⟩
    have s1 := Same.new (o := .tup [.str "A", .str ""]) ht1
    have e1 : Dv K (OffS [p] (upd H8 t1 (.tup [.str "A", .str ""]))) (.ref t1) (.tuple [.str "A", .str ""]) := new_tup ht1 hid8 (.cons (.str _) (.cons (.str _) .nil))
    have hid1 := hid8.keep s1
    generalize upd H8 t1 (.tup [.str "A", .str ""]) = H1 at s1 e1 hid1 ⊢
    refine ⟨by show 2 ≤ sizeLine; decide, fun t2 ht2 => ?_⟩
    have s2 := Same.new (o := .tup [.str "", .str "a"]) ht2
    have e2 : Dv K (OffS [p] (upd H1 t2 (.tup [.str "", .str "a"]))) (.ref t2) (.tuple [.str "", .str "a"]) := new_tup ht2 hid1 (.cons (.str _) (.cons (.str _) .nil))
    have hid2 := hid1.keep s2
    generalize upd H1 t2 (.tup [.str "", .str "a"]) = H2 at s2 e2 hid2 ⊢
    refine ⟨by show 2 ≤ sizeLine; decide, fun t3 ht3 => ?_⟩
    have s3 := Same.new (o := .tup [.str "a", .str "B"]) ht3
    have e3 : Dv K (OffS [p] (upd H2 t3 (.tup [.str "a", .str "B"]))) (.ref t3) (.tuple [.str "a", .str "B"]) := new_tup ht3 hid2 (.cons (.str _) (.cons (.str _) .nil))
    have hid3 := hid2.keep s3
    generalize upd H2 t3 (.tup [.str "a", .str "B"]) = H3 at s3 e3 hid3 ⊢
    refine ⟨by show 1 ≤ sizeLine; decide, fun t4 ht4 => ?_⟩
    have s4 := Same.new (o := .tup [.str "a"]) ht4
    have e4 : Dv K (OffS [p] (upd H3 t4 (.tup [.str "a"]))) (.ref t4) (.tuple [.str "a"]) := new_tup ht4 hid3 (.cons (.str _) .nil)
    have hid4 := hid3.keep s4
    have v34 := s3.trans s4
    have v24 := s2.trans v34
    have all4 : DvAll K (OffS [p] (upd H3 t4 (.tup [.str "a"]))) [.ref t1, .ref t2, .ref t3, .ref t4, .non, .str "ab"] odds := .cons (e1.keep v24.off) (.cons (e2.keep v34.off) (.cons (e3.keep s4.off) (.cons e4 (.cons .non (.cons (.str _) .nil)))))
    have s84 := s1.trans v24
    generalize upd H3 t4 (.tup [.str "a"]) = H4 at s84 all4 hid4 ⊢
    clear e1 e2 e3 e4 s1 s2 s3 s4 v34 v24 hid1 hid2 hid3
    refine ⟨by show 6 ≤ sizeLine; decide, fun lo hlo => ?_⟩
    have s5 := Same.new (o := .lst [.ref t1, .ref t2, .ref t3, .ref t4, .non, .str "ab"]) hlo
    have s85 := s84.trans s5
    refine ⟨p, c, lo, _, _, rfl, P8.keep s85, SqL.of upd_same, Ne.symm ((P8.keep s84).ne hlo), by simp, by show 6 ≤ 1000; decide, by omega, fun od H6 hod d6 => ?_⟩
    obtain ⟨od_, hodm, hodv⟩ := all4.mem hod
    obtain ⟨hodf, hods⟩ := odds_ok od_ hodm
    have pS : p ∈ [p] := List.mem_singleton.mpr rfl
    have o6 := (s84.off (S := [p])).trans ((s5.off).trans (d6.off pS))
    have hod6 := (hodv.keep s5.off).keep (d6.off pS)
    have all6 := all8.keep o6
    have hid6 : Hid [p] H6 := (hid4.keep s5).drew d6
    have gL6 := d6.but _ _ hL3p (s85 _ _ gL8)
    have vf6 := vf8.keep o6
    have P6 := d6.pen
    have b06 : But p H H6 := b08.trans ((But.of s85).trans d6.but)
    clear all8 hid8 gL8 vf8 hid4 all4 hodv hod
    -- bent
    refine ⟨_, _, rfl, ?_⟩
    refine ⟨fun σ' H' => ∃ (bv : V) (bd : PyData), σ' = [some (.ref p), some (.ref sa), some (.ref ft), some (.int (r : Nat)), some (.int (w : Nat)), some (.ref L3), some (.int (k : Nat)), some od, some bv] ∧ Dv K (OffS [p] H') bv bd ∧ BadS bd ∧ Same H6 H', ?_, ?_⟩
    · have ir : Sz 1010 0 (.int (r : Nat)) := sz_small (by have := okS.r; omega)
      have iw : Sz 1010 0 (.int (w : Nat)) := sz_small (by have := okS.w; omega)
      have fin : ∀ (x : V) (d : PyData) (H' : Hp), Dv K (OffS [p] H') x d → dFields 12 d = false → Sz 60000 3 d → Same H6 H' → ∀ bt, H' bt = none → ∃ (bv : V) (bd : PyData), [some (V.ref p), some (.ref sa), some (.ref ft), some (.int (r : Nat)), some (.int (w : Nat)), some (.ref L3), some (.int (k : Nat)), some od, some (.ref bt)] = [some (V.ref p), some (.ref sa), some (.ref ft), some (.int (r : Nat)), some (.int (w : Nat)), some (.ref L3), some (.int (k : Nat)), some od, some bv] ∧ Dv K (OffS [p] (upd H' bt (.tup [x, .int (r : Nat), .int (w : Nat)]))) bv bd ∧ BadS bd ∧ Same H6 (upd H' bt (.tup [x, .int (r : Nat), .int (w : Nat)])) := by
        intro x d H' hx hd hz s bt hbt
        exact ⟨_, .tuple [d, .int (r : Nat), .int (w : Nat)], rfl, new_tup hbt (hid6.keep s) (.cons hx (.cons (.int _) (.cons (.int _) .nil))), ⟨sz_lim (sz_tri' hz ir iw), bad_a hd⟩, s.trans (Same.new hbt)⟩
      refine ⟨_, rfl, _, _, rfl, rfl, _, rfl, ifb (fun hk => ?_) (fun hk => ?_)⟩
      · have hk12 : k < 12 := by have : ((k : Nat) : Int) < 12 := of_decide_eq_true hk; omega
        have hsz : (1000 : Nat) ≤ sizeLine := by decide
        obtain ⟨hb1, hb2⟩ := bent_fds okS.fd hF12 hodf hods hk12 hk1'
        have lt1 : ((F.map fdat).take k).length ≤ 12 := by rw [List.length_take, List.length_map]; omega
        have ld1 : ((F.map fdat).drop k).length ≤ 12 := by rw [List.length_drop, List.length_map]; omega
        refine ⟨_, rfl, _, rfl, _, rfl, ?_⟩
        refine slA_to k vf6 hid6 fun r7 H7 s7 h7 => ?_
        refine ⟨_, rfl, by show 1 ≤ sizeLine; decide, fun t8 ht8 => ?_⟩
        have s8 := Same.new (o := .tup [od]) ht8
        have g8 := new_tup (K := K) ht8 (hid6.keep s7) (.cons (hod6.keep s7.off) .nil)
        have h78 := h7.keep s8.off
        have s78 := s7.trans s8
        have hid8 := hid6.keep s78
        generalize upd H7 t8 (.tup [od]) = H8 at g8 h78 s78 hid8 ⊢
        refine catA h78 g8 hid8 (by show ((F.map fdat).take k).length + 1 ≤ sizeLine; omega) fun r9 H9 s9 h9 => ?_
        refine ⟨_, rfl, _, rfl, _, rfl, ?_⟩
        refine slN ?_
        have s69 := s78.trans s9
        refine slA_from k (vf6.keep s69.off) (hid6.keep s69) fun r10 H10 s10 h10 => ?_
        have s610 := s69.trans s10
        refine catA (h9.keep s10.off) h10 (hid6.keep s610) (by rw [List.length_append]; show ((F.map fdat).take k).length + 1 + ((F.map fdat).drop k).length ≤ sizeLine; omega) fun r11 H11 s11 h11 => ?_
        have s611 := s610.trans s11
        refine ⟨_, rfl, ?_⟩
        refine slA_to 12 h11 (hid6.keep s611) fun r12 H12 s12 h12 => ?_
        refine ⟨_, rfl, _, rfl, by show 3 ≤ sizeLine; decide, fun bt hbt => ?_⟩
        exact fin _ _ _ h12 hb1 hb2 (s611.trans s12) bt hbt
      · obtain ⟨hb1, hb2⟩ := one_fds hodf hods
        refine ⟨_, rfl, by show 1 ≤ sizeLine; decide, fun t8 ht8 => ?_⟩
        refine ⟨_, rfl, _, rfl, by show 3 ≤ sizeLine; decide, fun bt hbt => ?_⟩
        exact fin _ _ _ (new_tup ht8 hid6 (.cons hod6 .nil)) hb1 hb2 (Same.new ht8) bt hbt
    rintro σ' H7 ⟨bv, bd, rfl, hbv, hbd, s67⟩
    have hid7 := hid6.keep s67
    -- one of all
    refine ⟨_, rfl, _, rfl, _, rfl, _, rfl, _, rfl, _, rfl, by show 2 ≤ sizeLine; decide, fun ab hab => ?_⟩
    have s8 := Same.new (o := .tup [.str "a", .str "b"]) hab
    have e8 : Dv K (OffS [p] (upd H7 ab (.tup [.str "a", .str "b"]))) (.ref ab) fab := new_tup hab hid7 (.cons (.str _) (.cons (.str _) .nil))
    have hid8 := hid7.keep s8
    generalize upd H7 ab (.tup [.str "a", .str "b"]) = H8 at s8 e8 hid8 ⊢
    refine ⟨by show 1 ≤ sizeLine; decide, fun tb htb => ?_⟩
    have s9 := Same.new (o := .tup [.ref ab]) htb
    have e9 : Dv K (OffS [p] (upd H8 tb (.tup [.ref ab]))) (.ref tb) (.tuple [fab]) := new_tup htb hid8 (.cons e8 .nil)
    have hid9 := hid8.keep s9
    generalize upd H8 tb (.tup [.ref ab]) = H9 at s9 e9 hid9 ⊢
    have e13 : (13 : Int) = ((13 : Nat) : Int) := rfl
    dsimp only [tC]
    rw [e13]
    refine repA 13 e9 hid9 (by omega) (by omega) fun r10 H10 s10 h10 => ?_
    have hid10 := hid9.keep s10
    refine ⟨_, rfl, _, rfl, by show 3 ≤ sizeLine; decide, fun tc htc => ?_⟩
    have s11 := Same.new (o := .tup [r10, .int (r : Nat), .int (w : Nat)]) htc
    have e11 : Dv K (OffS [p] (upd H10 tc (.tup [r10, .int (r : Nat), .int (w : Nat)]))) (.ref tc) (.tuple [.tuple (List.replicate 13 fab), .int (r : Nat), .int (w : Nat)]) := new_tup htc hid10 (.cons h10 (.cons (.int _) (.cons (.int _) .nil)))
    have hid11 := hid10.keep s11
    have s711 := (s8.trans s9).trans (s10.trans s11)
    generalize upd H10 tc (.tup [r10, .int (r : Nat), .int (w : Nat)]) = H11 at s711 e11 hid11 ⊢
    have hbv11 := hbv.keep s711.off
    refine ⟨by show 5 ≤ sizeLine; decide, fun lb hlb => ?_⟩
    have s12 := Same.new (o := .lst [bv, bv, bv, bv, .ref tc]) hlb
    have s612 := (s67.trans s711).trans s12
    refine ⟨L3, lb, zs, _, rfl, rfl, s612 _ _ gL6, upd_same, by rw [hzl]; show 14 + 5 ≤ sizeLine; decide, fun lc hlc => ?_⟩
    have s13 := Same.new (o := .lst (zs ++ [bv, bv, bv, bv, .ref tc])) hlc
    have s613 := s612.trans s13
    have all13 : DvAll K (OffS [p] (upd (upd H11 lb (.lst [bv, bv, bv, bv, .ref tc])) lc (.lst (zs ++ [bv, bv, bv, bv, .ref tc])))) (zs ++ [bv, bv, bv, bv, .ref tc]) ((bads1 F r w ++ bads2 F r w) ++ [bd, bd, bd, bd, .tuple [.tuple (List.replicate 13 fab), .int (r : Nat), .int (w : Nat)]]) := by
      have z := (s12.trans s13).off (S := [p])
      exact (all6.keep s613.off).app (.cons (hbv11.keep z) (.cons (hbv11.keep z) (.cons (hbv11.keep z) (.cons (hbv11.keep z) (.cons (e11.keep z) .nil)))))
    refine ⟨p, c, lc, _, _, rfl, P6.keep s613, SqL.of upd_same, Ne.symm ((P6.keep s612).ne hlc), by simp, by rw [List.length_append, hzl]; show 14 + 5 ≤ 1000; decide, by omega, fun x H14 hx d14 => ?_⟩
    obtain ⟨d, hdm, hdv⟩ := all13.mem hx
    refine q x d H14 (hdv.keep (d14.off pS)).on ?_ ⟨d14.pen.mono (by omega), (b06.trans (But.of s613)).trans d14.but⟩
    rcases List.mem_append.mp hdm with h | h
    · rcases List.mem_append.mp h with h | h
      · exact bads1_ok okS d h
      · exact bads2_ok okS d h
    · simp only [List.mem_cons, List.not_mem_nil, or_false] at h
      rcases h with rfl | rfl | rfl | rfl | rfl
      · exact hbd
      · exact hbd
      · exact hbd
      · exact hbd
      · exact ⟨sz_lim (sz_tri' ab13.2 (sz_small (by have := okS.r; omega)) (sz_small (by have := okS.w; omega))), bad_a ab13.1⟩

theorem ok_law (T : Txt K mg) : TopOk P w K mg 13 T.f_law T.d_law ["script"] (spLaw K) := by
  refine top_of T.F_law sc_law (fun vs H Q E h => ?_) (fun base cdv A outer s H vs Q E hA hr h => ?_)
  · obtain ⟨a, ns, rfl, _⟩ := h
    rfl
  · obtain ⟨a, ns, rfl, hS, hl, q⟩ := h
    have hgd : (A.deeper (envOfC "law" (defScope s_law) s.heap.objs.size T.f_law cdv)).guards = some [] := hA
    have hud : (A.deeper (envOfC "law" (defScope s_law) s.heap.objs.size T.f_law cdv)).units + 64 < cLine := by have := hr.un; omega
    refine ⟨_, (pss_cons (ps_set (i := 1) sc_law.nd rfl (Or.inl rfl) (pe_call (ok_law_open T) (hr.mono (by decide)) rfl T.g_law_open T.F_law_open.kp T.b_law_open .nil pass0 (pa_cons (pv 0) pa_nil)))
      (pss_cons (ps_for PassesOwn.never rfl (pi_range1 rfl T.z_range (pa_cons pe_int pa_nil)) (pg_name (i := 2) sc_law.nd rfl (Or.inl rfl))
        (pss_cons (ps_set (i := 3) sc_law.nd rfl (Or.inl rfl) (pe_call (ok_law_draw_setting T) (hr.mono (by decide)) rfl T.g_law_draw_setting T.F_law_draw_setting.kp T.b_law_draw_setting .nil pass0 (pa_cons (pv 1) pa_nil)))
      (pss_cons (ps_asg (pe_call (ok_law_draw_work T) (hr.mono (by decide)) rfl T.g_law_draw_work T.F_law_draw_work.kp T.b_law_draw_work .nil pass0 (pa_cons (pv 1) (pa_cons (pv 3) (pa_cons pe_int pa_nil)))) (pg_tup rfl (pgs_cons (pg_name (i := 4) sc_law.nd rfl (Or.inl rfl)) (pgs_cons (pg_name (i := 5) sc_law.nd rfl (Or.inl rfl)) pgs_nil))))
      (pss_cons (ps_for PassesOwn.never rfl (pi_range1 rfl T.z_range (pa_cons pe_int pa_nil)) (pg_name (i := 6) sc_law.nd rfl (Or.inl rfl))
        (pss_cons (ps_set (i := 7) sc_law.nd rfl (Or.inl rfl) (pe_call (ok_law_draw_step T) (hr.mono (by decide)) rfl T.g_law_draw_step T.F_law_draw_step.kp T.b_law_draw_step .nil pass0 (pa_cons (pv 1) (pa_cons (pv 3) (pa_cons (pe_tup (pa_cons pe_dnewK (pa_cons pe_int (pa_cons (pe_ix ix_tup (pv 3) pe_int (fun _ _ => rfl)) pa_nil)))) pa_nil)))))
      (pss_cons (ps_set (i := 8) sc_law.nd rfl (Or.inl rfl) (pe_lst (pa_cons (pe_tup (pa_cons pe_str (pa_cons (pe_ix ix_tup (pv 5) pe_int (fun _ _ => rfl)) pa_nil))) (pa_cons (pe_tup (pa_cons pe_str (pa_cons (pe_op op_add (pe_ix ix_tup (pv 5) pe_int (fun _ _ => rfl)) pe_int) (pa_cons pe_str pa_nil)))) (pa_cons (pe_tup (pa_cons pe_str (pa_cons (pe_callB call_len rfl T.z_len boot_len (pa_cons (pe_ix ix_tup (pv 3) pe_int (fun _ _ => rfl)) pa_nil)) (pa_cons pe_str pa_nil)))) (pa_cons (pv 7) pa_nil))))))
      (pss_cons (ps_set (i := 8) sc_law.nd rfl (Or.inl rfl) (pe_op op_cat (pv 8) (pe_lst (pa_cons (pe_tup (pa_cons pe_str (pa_cons (pe_op op_add (pe_ix ix_tup (pv 3) pe_int (fun _ _ => rfl)) pe_int) pa_nil))) (pa_cons (pe_tup (pa_cons pe_str (pa_cons (pe_op op_mul_str pe_str pe_int) (pa_cons (pe_op op_mul_str pe_str pe_int) pa_nil)))) (pa_cons (pe_tup (pa_cons pe_str (pa_cons pe_int pa_nil))) pa_nil))))))
      (pss_cons (ps_set (i := 9) sc_law.nd rfl (Or.inl rfl) (pe_call (ok_law_take T) (hr.mono (by decide)) rfl T.g_law_take T.F_law_take.kp T.b_law_take .nil pass0 (pa_cons (pv 1) (pa_cons (pe_op op_add (pe_callB call_len rfl T.z_len boot_len (pa_cons (pv 4) pa_nil)) pe_int) pa_nil))))
      (pss_cons (ps_set (i := 10) sc_law.nd rfl (Or.inl rfl) (pe_op op_cat (pe_op op_cat (pe_slice sl_list (pv 4) po_none (po_some (pv 9))) (pe_lst (pa_cons (pe_call (ok_law_one_of T) (hr.mono (by decide)) rfl T.g_law_one_of T.F_law_one_of.kp T.b_law_one_of .nil pass0 (pa_cons (pv 1) (pa_cons (pv 8) pa_nil))) pa_nil))) (pe_slice sl_list (pv 4) (po_some (pv 9)) po_none)))
      (pss_cons (ps_set (i := 11) sc_law.nd rfl (Or.inl rfl) (pe_callB (call_reprV hgd hud) rfl T.z_repr boot_repr (pa_cons (pe_tup (pa_cons (pv 3) (pa_cons (pv 10) pa_nil))) pa_nil)))
      (pss_one (ps_if (PW.pt (pw_or (pt_not (pt_val (pe_call (ok_law_same T) (hr.mono (by decide)) rfl T.g_law_same T.F_law_same.kp T.b_law_same .nil pass0 (pa_cons (pe_call (ok_law_told T) (hr.mono (by decide)) rfl T.g_law_told T.F_law_told.kp T.b_law_told .nil pass0 (pa_cons (pv 3) (pa_cons (pv 10) pa_nil))) (pa_cons (pe_call (ok_law_due T) (hr.mono (by decide)) rfl T.g_law_due T.F_law_due.kp T.b_law_due .nil pass0 (pa_cons (pv 3) (pa_cons (pv 10) pa_nil))) pa_nil))))) (pw_or1 (pt_cmpR op_ne (pe_callB (call_reprV hgd hud) rfl T.z_repr boot_repr (pa_cons (pe_tup (pa_cons (pv 3) (pa_cons (pv 10) pa_nil))) pa_nil)) (pv 11) (nomark _))))) (pss_one (ps_ret pe_bl)) pss_nil)))))))))
      (pss_cons (ps_set (i := 8) sc_law.nd rfl (Or.inl rfl) (pe_lst (pa_cons pe_non (pa_cons (pe_tup (pa_cons pe_str (pa_cons pe_str (pa_cons pe_str pa_nil)))) (pa_cons (pe_tup (pa_cons pe_str (pa_cons (pe_un un_neg pe_int) pa_nil))) (pa_cons (pe_lst (pa_cons pe_str (pa_cons pe_int pa_nil))) (pa_cons (pe_tup (pa_cons pe_str (pa_cons pe_bl pa_nil))) (pa_cons (pe_tup (pa_cons pe_str (pa_cons pe_int pa_nil))) pa_nil))))))))
      (pss_cons (ps_par (i := 9) (j := 8) rfl sc_law.nd rfl rfl (by decide) rfl rfl (pa_cons (pe_call (ok_law_take T) (hr.mono (by decide)) rfl T.g_law_take T.F_law_take.kp T.b_law_take .nil pass0 (pa_cons (pv 1) (pa_cons (pe_op op_add (pe_callB call_len rfl T.z_len boot_len (pa_cons (pv 4) pa_nil)) pe_int) pa_nil))) (pa_cons (pe_call (ok_law_one_of T) (hr.mono (by decide)) rfl T.g_law_one_of T.F_law_one_of.kp T.b_law_one_of .nil pass0 (pa_cons (pv 1) (pa_cons (pv 8) pa_nil))) pa_nil)) (by rfl))
      (pss_cons (ps_set (i := 12) sc_law.nd rfl (Or.inl rfl) (pe_call (ok_law_one_of T) (hr.mono (by decide)) rfl T.g_law_one_of T.F_law_one_of.kp T.b_law_one_of .nil pass0 (pa_cons (pv 1) (pa_cons (pe_lst (pa_cons (pe_op op_cat (pe_op op_cat (pe_slice sl_list (pv 4) po_none (po_some (pv 9))) (pe_lst (pa_cons (pv 8) pa_nil))) (pe_slice sl_list (pv 4) (po_some (pv 9)) po_none)) (pa_cons (pe_op op_cat (pe_op op_cat (pe_lst (pa_cons (pe_tup (pa_cons pe_str (pa_cons pe_int pa_nil))) pa_nil)) (pv 4)) (pe_lst (pa_cons (pv 8) pa_nil))) (pa_cons (pe_op op_cat (pv 4) (pe_lst (pa_cons (pv 8) pa_nil))) pa_nil)))) pa_nil))))
      (pss_cons (ps_set (i := 12) sc_law.nd rfl (Or.inl rfl) (pe_call (ok_law_one_of T) (hr.mono (by decide)) rfl T.g_law_one_of T.F_law_one_of.kp T.b_law_one_of .nil pass0 (pa_cons (pv 1) (pa_cons (pe_lst (pa_cons (pv 12) (pa_cons (pe_revL (pv 12)) (pa_cons (pe_callTy call_tuple_of rfl T.z_tuple boot_tuple (pa_cons (pv 4) pa_nil)) (pa_cons pe_non (pa_cons pe_dnewK (pa_cons pe_str pa_nil))))))) pa_nil))))
      (pss_cons (ps_if (PW.pt (pw_or (pt_cmpR op_ne (pe_call (ok_law_told T) (hr.mono (by decide)) rfl T.g_law_told T.F_law_told.kp T.b_law_told .nil pass0 (pa_cons (pv 3) (pa_cons (pv 12) pa_nil))) pe_str (nomark _)) (pw_or1 (pt_cmpR op_ne (pe_call (ok_law_told T) (hr.mono (by decide)) rfl T.g_law_told T.F_law_told.kp T.b_law_told .nil pass0 (pa_cons (pe_call (ok_law_wrong_setting T) (hr.mono (by decide)) rfl T.g_law_wrong_setting T.F_law_wrong_setting.kp T.b_law_wrong_setting .nil pass0 (pa_cons (pv 1) (pa_cons (pv 3) pa_nil))) (pa_cons (pv 4) pa_nil))) pe_str (nomark _))))) (pss_one (ps_ret pe_bl)) pss_nil)
      (pss_one (ps_if (pt_cmpR op_ne (pe_call (ok_law_told T) (hr.mono (by decide)) rfl T.g_law_told T.F_law_told.kp T.b_law_told .nil pass0 (pa_cons (pe_call (ok_law_wrong_setting T) (hr.mono (by decide)) rfl T.g_law_wrong_setting T.F_law_wrong_setting.kp T.b_law_wrong_setting .nil pass0 (pa_cons (pv 1) (pa_cons (pv 3) pa_nil))) (pa_cons (pv 12) pa_nil))) pe_str (nomark _)) (pss_one (ps_ret pe_bl)) pss_nil)))))))))))
      (pss_one (ps_ret pe_bl)))), ?_⟩
    refine ⟨_, rfl, a, ns, rfl, hS, hl, fun p c H1 hp s1 P1 => ?_⟩
    refine ⟨_, rfl, by decide, by decide, ?_⟩
    refine for_range (lo := 0) (n := 8) (fun i σ H' => ∃ v2 v3 v4 v5 v6 v7 v8 v9 v10 v11 v12 : Option V, σ = [some (.ref a), some (.ref p), v2, v3, v4, v5, v6, v7, v8, v9, v10, v11, v12] ∧ Pen H' p c (20000 * i)) ⟨_, _, _, _, _, _, _, _, _, _, _, rfl, P1⟩ ?_ ?_
    · rintro i σ H2 hi ⟨v2, v3, v4, v5, v6, v7, v8, v9, v10, v11, v12, rfl, P2⟩
      refine ⟨_, rfl, p, c, _, rfl, P2, by omega, fun sv F r w H3 hS3 okS d3 => ?_⟩
      refine ⟨_, rfl, _, rfl, ?_⟩
      refine ⟨p, c, _, 12, sv, F, r, w, rfl, d3.pen, by omega, by omega, hS3, okS, fun q1 L st xs is t H5 hq1 hLp hL4 gL hI okI hil hT okT hrun hmd d5 => ?_⟩
      refine ⟨q1, _, rfl, hq1, rfl, _, _, rfl, _, _, rfl, rfl, ?_⟩
      show tSeq _ _ _ _ H5
      have hS5 := hS3.ts (TS.drew d3.pen d5)
      have P5 := d5.pen
      obtain ⟨sta, Ds, e0, g4, hEs⟩ := id hT
      subst e0
      obtain ⟨sa, ft, fx, esv, g1, g2, g3⟩ := id hS5
      clear hS3 hEs
      have hF12 := okS.len
      have hlF := p_len g3
      have hxl := p_len hI
      have hr120 := okS.r
      have hmd9 := okT.mad
      refine ⟨_, rfl, by decide, by decide, ?_⟩
      refine for_range (lo := 0) (n := 3) (fun j σ H' => ∃ v6 v7 v8 v9 v10 v11 : Option V, σ = [some (.ref a), some (.ref p), some (.int (0 + (i : Int))), some sv, some (.ref L), some (.ref sta), v6, v7, v8, v9, v10, v11, v12] ∧ Pen H' p c (20000 * i + 11500 + 500 * j) ∧ But p H5 H') ⟨_, _, _, _, _, _, rfl, P5.mono (by omega), fun _ _ _ e => e⟩ ?_ ?_
      · rintro j σ H6 hj ⟨v6, v7, v8, v9, v10, v11, rfl, P6, b6⟩
        obtain ⟨⟨xp, gp⟩, _⟩ := P5.some
        have k6 := KS.but b6 gp
        have hS6 := hS5.ts k6.ts
        have g16 := k6.ts.tup g1
        have g26 := k6.ts.tup g2
        have g46 := k6.ts.tup g4
        have gL6 := b6 _ _ hLp gL
        have hI6 := hI.ts k6.ts
        -- one
        refine ⟨_, rfl, _, rfl, fun D0 hD0 => ?_⟩
        have s7 := Same.new (o := .dK []) hD0
        refine ⟨_, rfl, _, _, _, _, esv, rfl, s7.tup g16, rfl, by show 3 ≤ sizeLine; decide, fun st2 hst2 => ?_⟩
        have s8 := Same.new (o := .tup [.ref D0, .int 0, .int (r : Nat)]) hst2
        have hT8 : StV K (upd (upd H6 D0 (.dK [])) st2 (.tup [.ref D0, .int 0, .int (r : Nat)])) (.ref st2) (tb0 r) := ⟨st2, D0, rfl, SqT.of upd_same, [], s8 _ _ upd_same, .nil⟩
        have s68 := s7.trans s8
        refine ⟨p, c, _, sv, .ref st2, F, r, w, tb0 r, rfl, P6.keep s68, by omega, hS6.ts (.of s68), okS, hT8, tb0_ok hr120, fun v1 i1 H9 hv1 ok1 d9 => ?_⟩
        have b9 : But p H6 H9 := (But.of s68).trans d9.but
        have P9 := d9.pen
        obtain ⟨⟨xp6, gp6⟩, _⟩ := P6.some
        have k9 := KS.but b9 gp6
        have g19 := k9.ts.tup g16
        have g29 := k9.ts.tup g26
        have g49 := k9.ts.tup g46
        clear hT8 s68 s7 s8
        -- odd
        refine ⟨_, rfl, _, _, _, _, rfl, rfl, g49, rfl, by show 2 ≤ sizeLine; decide, fun t1 ht1 => ?_⟩
        have s1 := Same.new (o := .tup [.str "again", .int (t.made : Nat)]) ht1
        have e1 : InsV K (upd H9 t1 (.tup [.str "again", .int (t.made : Nat)])) (.ref t1) (.again t.made) := ⟨t1, rfl, SqT.of upd_same⟩
        generalize upd H9 t1 (.tup [.str "again", .int (t.made : Nat)]) = G1 at s1 e1 ⊢
        refine ⟨_, rfl, _, _, _, _, rfl, rfl, s1.tup g49, rfl, _, _, rfl, rfl, by show 3 ≤ sizeLine; decide, fun t2 ht2 => ?_⟩
        have s2 := Same.new (o := .tup [.str "entry", .int (((t.made + 3 : Nat)) : Int), .str "a"]) ht2
        have e2 : InsV K (upd G1 t2 (.tup [.str "entry", .int (((t.made + 3 : Nat)) : Int), .str "a"])) (.ref t2) (.entry (t.made + 3) "a") := ⟨t2, rfl, SqT.of upd_same⟩
        have em3 : ((t.made : Nat) : Int) + 3 = ((t.made + 3 : Nat) : Int) := by omega
        dsimp only
        rw [em3]
        generalize upd G1 t2 (.tup [.str "entry", .int (((t.made + 3 : Nat)) : Int), .str "a"]) = G2 at s2 e2 ⊢
        have u2 := s1.trans s2
        refine ⟨_, rfl, _, _, _, _, esv, rfl, u2.tup g19, rfl, _, _, rfl, .inr ⟨_, u2.tup g29, rfl⟩, by show 3 ≤ sizeLine; decide, fun t3 ht3 => ?_⟩
        have s3 := Same.new (o := .tup [.str "fixed", .int (fx.length : Nat), .str ""]) ht3
        have e3 : InsV K (upd G2 t3 (.tup [.str "fixed", .int (fx.length : Nat), .str ""])) (.ref t3) (.fixed fx.length "") := ⟨t3, rfl, SqT.of upd_same⟩
        generalize upd G2 t3 (.tup [.str "fixed", .int (fx.length : Nat), .str ""]) = G3 at s3 e3 ⊢
        have u3 := u2.trans s3
        refine ⟨_, rfl, by show 4 ≤ sizeLine; decide, fun lo hlo => ?_⟩
        have s4 := Same.new (o := .lst [.ref t1, .ref t2, .ref t3, v1]) hlo
        have u4 := u3.trans s4
        have glo : upd G3 lo (.lst [.ref t1, .ref t2, .ref t3, v1]) lo = some (.lst [.ref t1, .ref t2, .ref t3, v1]) := upd_same
        have v34 := s4
        have v24 := s3.trans v34
        have v14 := s2.trans v24
        have f1 := e1.ts (.of v14)
        have f2 := e2.ts (.of v24)
        have f3 := e3.ts (.of v34)
        have f0 := hv1.ts (.of u4)
        clear e1 e2 e3 v14 v24 v34
        show tSeq _ _ _ _ (upd G3 lo (.lst [.ref t1, .ref t2, .ref t3, v1]))
        generalize upd G3 lo (.lst [.ref t1, .ref t2, .ref t3, v1]) = G4 at u4 glo f1 f2 f3 f0 ⊢
        clear s1 s2 s3 s4 u2 u3
        refine ⟨_, rfl, _, rfl, _, _, _, _, esv, rfl, u4.tup g19, rfl, _, _, rfl, rfl, by show 2 ≤ sizeLine; decide, fun t4 ht4 => ?_⟩
        have er1 : ((r : Nat) : Int) + 1 = ((r + 1 : Nat) : Int) := by omega
        dsimp only
        rw [er1]
        have s5 := Same.new (o := .tup [.str "limit", .int ((r + 1 : Nat) : Int)]) ht4
        have e4 : InsV K (upd G4 t4 (.tup [.str "limit", .int ((r + 1 : Nat) : Int)])) (.ref t4) (.limit (r + 1)) := ⟨t4, rfl, SqT.of upd_same⟩
        generalize upd G4 t4 (.tup [.str "limit", .int ((r + 1 : Nat) : Int)]) = G5 at s5 e4 ⊢
        refine ⟨_, _, rfl, rfl, by decide, by decide, by decide, by decide, _, _, rfl, rfl, by decide, by decide, by decide, by decide, by show 3 ≤ sizeLine; decide, fun t5 ht5 => ?_⟩
        have s6 := Same.new (o := .tup [.str "new", .str (repS "a" (Int.toNat 20)), .str (repS "b" (Int.toNat 40))]) ht5
        have e5 : InsV K (upd G5 t5 (.tup [.str "new", .str (repS "a" (Int.toNat 20)), .str (repS "b" (Int.toNat 40))])) (.ref t5) (.new (repS "a" (Int.toNat 20)) (repS "b" (Int.toNat 40))) := ⟨t5, rfl, SqT.of upd_same⟩
        dsimp only
        generalize upd G5 t5 (.tup [.str "new", .str (repS "a" (Int.toNat 20)), .str (repS "b" (Int.toNat 40))]) = G6 at s6 e5 ⊢
        refine ⟨by show 2 ≤ sizeLine; decide, fun t6 ht6 => ?_⟩
        have s7 := Same.new (o := .tup [.str "again", .int 9999]) ht6
        have e6 : InsV K (upd G6 t6 (.tup [.str "again", .int 9999])) (.ref t6) (.again 9999) := ⟨t6, rfl, SqT.of upd_same⟩
        generalize upd G6 t6 (.tup [.str "again", .int 9999]) = G7 at s7 e6 ⊢
        refine ⟨by show 3 ≤ sizeLine; decide, fun l2 hl2 => ?_⟩
        have s8 := Same.new (o := .lst [.ref t4, .ref t5, .ref t6]) hl2
        have v78 := s8
        have v68 := s7.trans s8
        have v58 := s6.trans v68
        have v48 := s5.trans v58
        refine ⟨lo, l2, _, _, rfl, rfl, v48 _ _ glo, upd_same, by show 4 + 3 ≤ sizeLine; decide, fun l3 hl3 => ?_⟩
        have s9 := Same.new (o := .lst ([.ref t1, .ref t2, .ref t3, v1] ++ [.ref t4, .ref t5, .ref t6])) hl3
        have u9 := (u4.trans v48).trans s9
        have gl3 : upd (upd G7 l2 (.lst [.ref t4, .ref t5, .ref t6])) l3 (.lst ([.ref t1, .ref t2, .ref t3, v1] ++ [.ref t4, .ref t5, .ref t6])) l3 = some (.lst ([.ref t1, .ref t2, .ref t3, v1] ++ [.ref t4, .ref t5, .ref t6])) := upd_same
        have hl3p : l3 ≠ p := Ne.symm ((P9.keep (u4.trans v48)).ne hl3)
        have kO : ∀ x ∈ ([.ref t1, .ref t2, .ref t3, v1] ++ [.ref t4, .ref t5, .ref t6] : List V), ∃ i, InsV K (upd (upd G7 l2 (.lst [.ref t4, .ref t5, .ref t6])) l3 (.lst ([.ref t1, .ref t2, .ref t3, v1] ++ [.ref t4, .ref t5, .ref t6]))) x i ∧ i.Ok := by
          have z49 := v48.trans s9
          have z := (s6.trans (s7.trans s8)).trans s9
          intro x hx
          simp only [List.mem_append, List.mem_cons, List.not_mem_nil, or_false] at hx
          rcases hx with (rfl | rfl | rfl | rfl) | (rfl | rfl | rfl)
          · exact ⟨_, f1.ts (.of z49), by show t.made ≤ 9999; omega⟩
          · exact ⟨_, f2.ts (.of z49), by show t.made + 3 ≤ 9999; omega, by decide +kernel⟩
          · exact ⟨_, f3.ts (.of z49), by show fx.length ≤ 9999; omega, by decide +kernel⟩
          · exact ⟨_, f0.ts (.of z49), ok1⟩
          · exact ⟨_, e4.ts (.of z), by show r + 1 ≤ 9999; omega⟩
          · exact ⟨_, e5.ts (.of (v68.trans s9)), by decide +kernel, by decide +kernel⟩
          · exact ⟨_, e6.ts (.of (s8.trans s9)), by show 9999 ≤ 9999; omega⟩
        have hOl : ([.ref t1, .ref t2, .ref t3, v1] ++ [.ref t4, .ref t5, .ref t6] : List V).length = 7 := rfl
        have b10 : But p H6 (upd (upd G7 l2 (.lst [.ref t4, .ref t5, .ref t6])) l3 (.lst ([.ref t1, .ref t2, .ref t3, v1] ++ [.ref t4, .ref t5, .ref t6]))) := b9.trans (But.of u9)
        have P10 := P9.keep u9
        show tSeq _ _ _ _ (upd (upd G7 l2 (.lst [.ref t4, .ref t5, .ref t6])) l3 (.lst ([.ref t1, .ref t2, .ref t3, v1] ++ [.ref t4, .ref t5, .ref t6])))
        generalize upd (upd G7 l2 (.lst [.ref t4, .ref t5, .ref t6])) l3 (.lst ([.ref t1, .ref t2, .ref t3, v1] ++ [.ref t4, .ref t5, .ref t6])) = H10 at gl3 kO b10 P10 ⊢
        generalize ([.ref t1, .ref t2, .ref t3, v1] ++ [.ref t4, .ref t5, .ref t6] : List V) = os at gl3 kO hOl ⊢
        clear f0 f1 f2 f3 e4 e5 e6 v78 v68 v58 v48 s5 s6 s7 s8 s9 u4 u9 glo g19 g29 g49 k9 b9
        -- spot
        have gL10 := b10 _ _ hLp gL6
        refine ⟨_, rfl, _, rfl, _, _, rfl, .inl ⟨_, SqL.of gL10, rfl⟩, _, _, rfl, rfl, p, c, _, _, rfl, P10, by omega, by omega, by omega, fun k H11 hk0 hk1 d11 => ?_⟩
        obtain ⟨k, rfl⟩ : ∃ k' : Nat, k = (k' : Int) := ⟨k.toNat, by omega⟩
        have gL11 := d11.but _ _ hLp gL10
        have gO11 := d11.but _ _ hl3p gl3
        have t1011 := TS.drew P10 d11
        have hsz : (1000 : Nat) ≤ sizeLine := by decide
        -- bent
        refine ⟨_, rfl, _, rfl, _, rfl, L, xs, rfl, SqL.of gL11, fun q1 hq1 => ?_⟩
        rw [cut_to]
        have s12 := Same.new (o := .lst (xs.take k)) hq1
        have gq1 : upd H11 q1 (.lst (xs.take k)) q1 = some (.lst (xs.take k)) := upd_same
        have hq1p : q1 ≠ p := Ne.symm (d11.pen.ne hq1)
        refine ⟨_, rfl, _, rfl, p, c, l3, _, os, rfl, d11.pen.keep s12, SqL.of (s12 _ _ gO11), hl3p, (by intro e; rw [e] at hOl; cases hOl), by rw [hOl]; decide, by omega, fun x H13 hx d13 => ?_⟩
        have t13 := (t1011.trans (.of s12)).trans (TS.drew (d11.pen.keep s12) d13)
        obtain ⟨i0, hi0, ok0⟩ := kO x hx
        have hi13 := hi0.ts t13
        have gq13 := d13.but _ _ hq1p gq1
        have gL13 := d13.but _ _ hLp (s12 _ _ gL11)
        have b13 : But p H6 H13 := ((b10.trans d11.but).trans (But.of s12)).trans d13.but
        clear gO11 gq1 gL11
        refine ⟨by show 1 ≤ sizeLine; decide, fun q2 hq2 => ?_⟩
        have s14 := Same.new (o := .lst [x]) hq2
        refine ⟨q1, q2, _, _, rfl, rfl, s14 _ _ gq13, upd_same, by rw [List.length_take]; show min k xs.length + 1 ≤ sizeLine; omega, fun q3 hq3 => ?_⟩
        have s15 := Same.new (o := .lst (xs.take k ++ [x])) hq3
        have gq3 : upd (upd H13 q2 (.lst [x])) q3 (.lst (xs.take k ++ [x])) q3 = some (.lst (xs.take k ++ [x])) := upd_same
        have s1315 := s14.trans s15
        generalize upd (upd H13 q2 (.lst [x])) q3 (.lst (xs.take k ++ [x])) = H15 at gq3 s1315 ⊢
        refine ⟨_, rfl, _, rfl, _, rfl, L, xs, rfl, SqL.of (s1315 _ _ gL13), fun q4 hq4 => ?_⟩
        rw [cut_from]
        have s16 := Same.new (o := .lst (xs.drop k)) hq4
        refine ⟨q3, q4, _, _, rfl, rfl, s16 _ _ gq3, upd_same, by rw [List.length_append, List.length_take, List.length_drop]; show min k xs.length + 1 + _ ≤ sizeLine; omega, fun B hB => ?_⟩
        have s17 := Same.new (o := .lst (xs.take k ++ [x] ++ xs.drop k)) hB
        have gB : upd (upd H15 q4 (.lst (xs.drop k))) B (.lst (xs.take k ++ [x] ++ xs.drop k)) B = some (.lst (xs.take k ++ [x] ++ xs.drop k)) := upd_same
        have s1317 := s1315.trans (s16.trans s17)
        show tSeq _ _ _ _ (upd (upd H15 q4 (.lst (xs.drop k))) B (.lst (xs.take k ++ [x] ++ xs.drop k)))
        generalize upd (upd H15 q4 (.lst (xs.drop k))) B (.lst (xs.take k ++ [x] ++ xs.drop k)) = H17 at gB s1317 ⊢
        have b17 : But p H6 H17 := b13.trans (But.of s1317)
        have P17 := d13.pen.keep s1317
        have k17 := KS.but b17 gp6
        have hI17 : InssV K H17 (xs.take k ++ [x] ++ xs.drop k) (is.take k ++ [i0] ++ is.drop k) := p_app (p_app (p_take k (hI6.ts k17.ts)) (.cons (hi13.ts (.of s1317)) .nil)) (p_drop k (hI6.ts k17.ts))
        have okB : ∀ i ∈ is.take k ++ [i0] ++ is.drop k, i.Ok := by
          intro i hi
          rcases List.mem_append.mp hi with h | h
          · rcases List.mem_append.mp h with h | h
            · exact okI i (List.mem_of_mem_take h)
            · rw [List.mem_singleton.mp h]; exact ok0
          · exact okI i (List.mem_of_mem_drop h)
        have hBl : (is.take k ++ [i0] ++ is.drop k).length ≤ 40 := by
          rw [List.length_append, List.length_append, List.length_take, List.length_drop]
          show min k is.length + 1 + _ ≤ 40
          omega
        have hS17 := hS6.ts k17.ts
        generalize xs.take k ++ [x] ++ xs.drop k = ys at gB hI17
        generalize is.take k ++ [i0] ++ is.drop k = js at hI17 okB hBl
        -- seen
        refine ⟨_, rfl, _, rfl, by show 2 ≤ sizeLine; decide, fun tt htt => ?_⟩
        have s18 := Same.new (o := .tup [sv, .ref B]) htt
        have hd2 : ∀ H', SetV K H' sv F r w → H' B = some (.lst ys) → InssV K H' ys js → DvAll K H' [sv, .ref B] [sdat F r w, wdat js] := fun H' h1 h2 h3 => .cons (.ofDp h1.dp) (.cons (.ofDp (.lst (SqL.of h2) h3.dp)) .nil)
        have z1 := sz_set okS
        have z2 := sz_work okB (by omega)
        have zA : Sz 200000 4 (.tuple [sdat F r w, wdat js]) := by
          refine sz_tup' (k := 3) ?_ ?_ ?_
          · rw [okVAll, okVAll, okVAll, z1.ok, z2.ok]; rfl
          · have := z1.w; have := z2.w
            rw [wVAll, wVAll, wVAll]; omega
          · refine depthAll_le fun d hd => ?_
            simp only [List.mem_cons, List.not_mem_nil, or_false] at hd
            rcases hd with rfl | rfl
            · exact z1.dp
            · exact Nat.le_trans z2.dp (by decide)
        have zD : PyData.depth (.tuple [sdat F r w, wdat js]) ≤ 40 := Nat.le_trans zA.dp (by decide)
        have zW : wV (.tuple [sdat F r w, wdat js]) ≤ 10000000 := Nat.le_trans zA.w (by decide)
        refine ⟨.ref tt, .tuple [sdat F r w, wdat js], rfl, .tup (SqT.of upd_same) (hd2 _ (hS17.ts (.of s18)) (s18 _ _ gB) (hI17.ts (.of s18))), zA.ok, zD, zW, ?_⟩
        have hS18 := hS17.ts (.of s18)
        have hI18 := hI17.ts (.of s18)
        have gB18 := s18 _ _ gB
        refine ⟨_, rfl, _, rfl, ?_⟩
        refine ⟨sv, .ref B, rfl, .inr (.inr ⟨B, F, r, w, ys, js, rfl, hS18, okS, SqL.of gB18, hI18, okB, by omega, fun x1 H19 s19 hx1 => ?_⟩)⟩
        refine ⟨_, rfl, _, rfl, ?_⟩
        refine ⟨sv, B, F, r, w, ys, js, rfl, hS18.ts (.of s19), okS, SqL.of (s19 _ _ gB18), hI18.ts (.of s19), okB, by omega, fun x2 H20 s20 hx2 => ?_⟩
        refine ⟨x1, x2, _, rfl, dp_keep s20 hx1, hx2, ?_, fun H21 s21 => ⟨_, rfl, ifF rfl ?_⟩⟩
        · cases runT F r (tb0 r) 0 js with
          | ok t' => exact dle_str _ _
          | error k' => exact dle_2 (n := 10) (dle_str _ _) (dle_int _ _)
        have s1721 := ((s18.trans s19).trans s20).trans s21
        refine ⟨_, rfl, _, rfl, by show 2 ≤ sizeLine; decide, fun t2 ht2 => ?_⟩
        have s22 := Same.new (o := .tup [sv, .ref B]) ht2
        have s1722 := s1721.trans s22
        refine ⟨.ref t2, .tuple [sdat F r w, wdat js], rfl, .tup (SqT.of upd_same) (hd2 _ (hS17.ts (.of s1722)) (s1722 _ _ gB) (hI17.ts (.of s1722))), zA.ok, zD, zW, ?_⟩
        refine ⟨_, rfl, rfl, _, rfl, ifF (by rw [decide_eq_true rfl]; rfl) ?_⟩
        exact ⟨_, _, _, _, _, _, rfl, (P17.keep s1722).mono (by omega), (b6.trans b17).trans (But.of s1722)⟩
      rintro σ H6 ⟨v6, v7, v8, v9, v10, v11, rfl, P6, b6⟩
      obtain ⟨⟨xp, gp⟩, _⟩ := P5.some
      have k6 := KS.but b6 gp
      have hS6 := hS5.ts k6.ts
      have gL6 := b6 _ _ hLp gL
      have hI6 := hI.ts k6.ts
      obtain ⟨⟨xp6, gp6⟩, _⟩ := P6.some
      have hid6 : Hid [p] H6 := Hid.one P6
      have pS : p ∈ [p] := List.mem_singleton.mpr rfl
      have aw : DvAll K (OffS [p] H6) xs (idat is) := .ofDp (hI6.ts (ts_off gp6)).dp
      have hLn : L ∉ [p] := fun z => hLp (List.mem_singleton.mp z)
      clear hS5 hI gL g1 g2 g3 g4 hT P5 k6
      -- odd
      refine ⟨by show 3 ≤ sizeLine; decide, fun t1 ht1 => ?_⟩
      have s1 := Same.new (o := .tup [.str "new", .str "", .str "a"]) ht1
      have e1 : Dv K (OffS [p] (upd H6 t1 (.tup [.str "new", .str "", .str "a"]))) (.ref t1) (.tuple [.str "new", .str "", .str "a"]) := new_tup ht1 hid6 (.cons (.str _) (.cons (.str _) (.cons (.str _) .nil)))
      have hid1 := hid6.keep s1
      generalize upd H6 t1 (.tup [.str "new", .str "", .str "a"]) = G1 at s1 e1 hid1 ⊢
      refine ⟨_, rfl, by show 2 ≤ sizeLine; decide, fun t2 ht2 => ?_⟩
      have s2 := Same.new (o := .tup [.str "again", .int (-1)]) ht2
      have e2 : Dv K (OffS [p] (upd G1 t2 (.tup [.str "again", .int (-1)]))) (.ref t2) (.tuple [.str "again", .int (-1)]) := new_tup ht2 hid1 (.cons (.str _) (.cons (.int _) .nil))
      have hid2 := hid1.keep s2
      generalize upd G1 t2 (.tup [.str "again", .int (-1)]) = G2 at s2 e2 hid2 ⊢
      refine ⟨by show 2 ≤ sizeLine; decide, fun t3 ht3 => ?_⟩
      have s3 := Same.new (o := .lst [.str "again", .int 0]) ht3
      have e3 : Dv K (OffS [p] (upd G2 t3 (.lst [.str "again", .int 0]))) (.ref t3) (.list [.str "again", .int 0]) := new_lst ht3 hid2 (.cons (.str _) (.cons (.int _) .nil))
      have hid3 := hid2.keep s3
      generalize upd G2 t3 (.lst [.str "again", .int 0]) = G3 at s3 e3 hid3 ⊢
      refine ⟨by show 2 ≤ sizeLine; decide, fun t4 ht4 => ?_⟩
      have s4 := Same.new (o := .tup [.str "limit", .bl true]) ht4
      have e4 : Dv K (OffS [p] (upd G3 t4 (.tup [.str "limit", .bl true]))) (.ref t4) (.tuple [.str "limit", .bool true]) := new_tup ht4 hid3 (.cons (.str _) (.cons (.bl _) .nil))
      have hid4 := hid3.keep s4
      generalize upd G3 t4 (.tup [.str "limit", .bl true]) = G4 at s4 e4 hid4 ⊢
      refine ⟨by show 2 ≤ sizeLine; decide, fun t5 ht5 => ?_⟩
      have s5 := Same.new (o := .tup [.str "fixed", .int 0]) ht5
      have e5 : Dv K (OffS [p] (upd G4 t5 (.tup [.str "fixed", .int 0]))) (.ref t5) (.tuple [.str "fixed", .int 0]) := new_tup ht5 hid4 (.cons (.str _) (.cons (.int _) .nil))
      have hid5 := hid4.keep s5
      have v45 := s4.trans s5
      have v35 := s3.trans v45
      have v25 := s2.trans v35
      have v15 := s1.trans v25
      have allO : DvAll K (OffS [p] (upd G4 t5 (.tup [.str "fixed", .int 0]))) [.non, .ref t1, .ref t2, .ref t3, .ref t4, .ref t5] oddsI := .cons .non (.cons (e1.keep v25.off) (.cons (e2.keep v35.off) (.cons (e3.keep v45.off) (.cons (e4.keep s5.off) (.cons e5 .nil)))))
      generalize upd G4 t5 (.tup [.str "fixed", .int 0]) = G5 at v15 allO hid5 ⊢
      clear e1 e2 e3 e4 e5 s1 s2 s3 s4 s5 v25 v35 v45 hid1 hid2 hid3 hid4
      refine ⟨by show 6 ≤ sizeLine; decide, fun lo hlo => ?_⟩
      have s6 := Same.new (o := .lst [.non, .ref t1, .ref t2, .ref t3, .ref t4, .ref t5]) hlo
      have glo : upd G5 lo (.lst [.non, .ref t1, .ref t2, .ref t3, .ref t4, .ref t5]) lo = some (.lst [.non, .ref t1, .ref t2, .ref t3, .ref t4, .ref t5]) := upd_same
      have u6 := v15.trans s6
      have hlop : lo ≠ p := Ne.symm ((P6.keep v15).ne hlo)
      have allO6 := allO.keep s6.off
      have P7 := P6.keep u6
      have aw7 := aw.keep u6.off
      have b7 : But p H6 (upd G5 lo (.lst [.non, .ref t1, .ref t2, .ref t3, .ref t4, .ref t5])) := But.of u6
      show tSeq _ _ _ _ (upd G5 lo (.lst [.non, .ref t1, .ref t2, .ref t3, .ref t4, .ref t5]))
      generalize upd G5 lo (.lst [.non, .ref t1, .ref t2, .ref t3, .ref t4, .ref t5]) = H7 at glo allO6 P7 aw7 b7 ⊢
      clear aw v15 u6 s6 allO hid5 hid6
      have gL7 := b7 _ _ hLp gL6
      refine ⟨_, rfl, _, rfl, _, _, rfl, .inl ⟨_, SqL.of gL7, rfl⟩, _, _, rfl, rfl, p, c, _, _, rfl, P7, by omega, by omega, by omega, fun k H8 hk0 hk1 d8 => ?_⟩
      obtain ⟨k, rfl⟩ : ∃ k' : Nat, k = (k' : Int) := ⟨k.toNat, by omega⟩
      refine ⟨_, rfl, _, rfl, p, c, lo, _, _, rfl, d8.pen, SqL.of (d8.but _ _ hlop glo), hlop, by simp, by show 6 ≤ 1000; decide, by omega, fun od H9 hod d9 => ⟨_, _, rfl, ?_⟩⟩
      obtain ⟨od_, hodm, hodv0⟩ := allO6.mem hod
      obtain ⟨hodf, hods⟩ := oddsI_ok od_ hodm
      have o79 := (d8.off pS).trans (d9.off pS)
      have hodv := hodv0.keep o79
      have aw9 := aw7.keep o79
      have b9 : But p H6 H9 := b7.trans (d8.but.trans d9.but)
      have gL9 := b9 _ _ hLp gL6
      have P9 := d9.pen
      have hid9 : Hid [p] H9 := Hid.one P9
      have hsz : (1000 : Nat) ≤ sizeLine := by decide
      clear aw7 glo allO6 hodv0 o79
      -- wrong
      show tSeq _ _ _ _ H9
      refine ⟨_, rfl, _, rfl, _, rfl, _, rfl, L, xs, rfl, SqL.of gL9, fun q1 hq1 => ?_⟩
      rw [cut_to]
      have s1 := Same.new (o := .lst (xs.take k)) hq1
      have gq1 : upd H9 q1 (.lst (xs.take k)) q1 = some (.lst (xs.take k)) := upd_same
      refine ⟨_, rfl, by show 1 ≤ sizeLine; decide, fun q2 hq2 => ?_⟩
      have s2 := Same.new (o := .lst [od]) hq2
      refine ⟨q1, q2, _, _, rfl, rfl, s2 _ _ gq1, upd_same, by rw [List.length_take]; show min k xs.length + 1 ≤ sizeLine; omega, fun q3 hq3 => ?_⟩
      have s3 := Same.new (o := .lst (xs.take k ++ [od])) hq3
      have gq3 : upd (upd (upd H9 q1 (.lst (xs.take k))) q2 (.lst [od])) q3 (.lst (xs.take k ++ [od])) q3 = some (.lst (xs.take k ++ [od])) := upd_same
      have u3 := (s1.trans s2).trans s3
      generalize upd (upd (upd H9 q1 (.lst (xs.take k))) q2 (.lst [od])) q3 (.lst (xs.take k ++ [od])) = G3 at gq3 u3 ⊢
      clear s1 s2 s3 gq1
      refine ⟨_, rfl, _, rfl, _, rfl, L, xs, rfl, SqL.of (u3 _ _ gL9), fun q4 hq4 => ?_⟩
      rw [cut_from]
      have s4 := Same.new (o := .lst (xs.drop k)) hq4
      refine ⟨q3, q4, _, _, rfl, rfl, s4 _ _ gq3, upd_same, by rw [List.length_append, List.length_take, List.length_drop]; show min k xs.length + 1 + _ ≤ sizeLine; omega, fun wA hwA => ?_⟩
      have s5 := Same.new (o := .lst (xs.take k ++ [od] ++ xs.drop k)) hwA
      have gA : upd (upd G3 q4 (.lst (xs.drop k))) wA (.lst (xs.take k ++ [od] ++ xs.drop k)) wA = some (.lst (xs.take k ++ [od] ++ xs.drop k)) := upd_same
      have u5 := u3.trans (s4.trans s5)
      have hAp : wA ≠ p := Ne.symm ((P9.keep (u3.trans s4)).ne hwA)
      generalize upd (upd G3 q4 (.lst (xs.drop k))) wA (.lst (xs.take k ++ [od] ++ xs.drop k)) = G5 at gA u5 ⊢
      clear s4 s5 gq3
      -- [("again", 9999)] + work + [odd]
      refine ⟨by show 2 ≤ sizeLine; decide, fun t6 ht6 => ?_⟩
      have s6 := Same.new (o := .tup [.str "again", .int 9999]) ht6
      have e6 : Dv K (OffS [p] (upd G5 t6 (.tup [.str "again", .int 9999]))) (.ref t6) (Ins.again 9999).dat := new_tup ht6 (hid9.keep u5) (.cons (.str _) (.cons (.int _) .nil))
      have u6 := u5.trans s6
      have gA6 := s6 _ _ gA
      generalize upd G5 t6 (.tup [.str "again", .int 9999]) = G6 at e6 u6 gA6 ⊢
      refine ⟨by show 1 ≤ sizeLine; decide, fun q5 hq5 => ?_⟩
      have s7 := Same.new (o := .lst [.ref t6]) hq5
      have gq5 : upd G6 q5 (.lst [.ref t6]) q5 = some (.lst [.ref t6]) := upd_same
      refine ⟨_, rfl, q5, L, _, _, rfl, rfl, gq5, s7 _ _ (u6 _ _ gL9), by show 1 + xs.length ≤ sizeLine; omega, fun q6 hq6 => ?_⟩
      have s8 := Same.new (o := .lst ([.ref t6] ++ xs)) hq6
      have gq6 : upd (upd G6 q5 (.lst [.ref t6])) q6 (.lst ([.ref t6] ++ xs)) q6 = some (.lst ([.ref t6] ++ xs)) := upd_same
      have s68 := s7.trans s8
      generalize upd (upd G6 q5 (.lst [.ref t6])) q6 (.lst ([.ref t6] ++ xs)) = G8 at gq6 s68 ⊢
      refine ⟨_, rfl, by show 1 ≤ sizeLine; decide, fun q7 hq7 => ?_⟩
      have s9 := Same.new (o := .lst [od]) hq7
      refine ⟨q6, q7, _, _, rfl, rfl, s9 _ _ gq6, upd_same, by simp only [List.length_append, List.length_cons, List.length_nil]; omega, fun wB hwB => ?_⟩
      have s10 := Same.new (o := .lst ([.ref t6] ++ xs ++ [od])) hwB
      have gB : upd (upd G8 q7 (.lst [od])) wB (.lst ([.ref t6] ++ xs ++ [od])) wB = some (.lst ([.ref t6] ++ xs ++ [od])) := upd_same
      have s610 := s68.trans (s9.trans s10)
      have u10 := u6.trans s610
      have hBp : wB ≠ p := Ne.symm ((P9.keep (u6.trans (s68.trans s9))).ne hwB)
      generalize upd (upd G8 q7 (.lst [od])) wB (.lst ([.ref t6] ++ xs ++ [od])) = G10 at gB s610 u10 ⊢
      clear s9 s10 gq6 gq5 s7 s8 s68
      -- work + [odd]
      refine ⟨_, rfl, _, rfl, by show 1 ≤ sizeLine; decide, fun q8 hq8 => ?_⟩
      have s11 := Same.new (o := .lst [od]) hq8
      refine ⟨L, q8, _, _, rfl, rfl, s11 _ _ (u10 _ _ gL9), upd_same, by show xs.length + 1 ≤ sizeLine; omega, fun wC hwC => ?_⟩
      have s12 := Same.new (o := .lst (xs ++ [od])) hwC
      have gC : upd (upd G10 q8 (.lst [od])) wC (.lst (xs ++ [od])) wC = some (.lst (xs ++ [od])) := upd_same
      have s1012 := s11.trans s12
      have u12 := u10.trans s1012
      have hCp : wC ≠ p := Ne.symm ((P9.keep (u10.trans s11)).ne hwC)
      generalize upd (upd G10 q8 (.lst [od])) wC (.lst (xs ++ [od])) = G12 at gC s1012 u12 ⊢
      refine ⟨by show 3 ≤ sizeLine; decide, fun lw hlw => ?_⟩
      have s13 := Same.new (o := .lst [.ref wA, .ref wB, .ref wC]) hlw
      have u13 := u12.trans s13
      have z613 := (s610.trans s1012).trans s13
      refine ⟨p, c, lw, _, _, rfl, P9.keep u13, SqL.of upd_same, Ne.symm ((P9.keep u12).ne hlw), by simp, by show 3 ≤ 1000; decide, by omega, fun x H14 hx d14 => ?_⟩
      have o914 := u13.off.trans (d14.off pS)
      have aw14 := aw9.keep o914
      have od14 := hodv.keep o914
      obtain ⟨Lw, ys, ds, rfl, hLwp, gLw, hys, hwl⟩ : ∃ Lw ys ds, x = .ref Lw ∧ Lw ≠ p ∧ H14 Lw = some (.lst ys) ∧ DvAll K (OffS [p] H14) ys ds ∧ WL ds := by
        simp only [List.mem_cons, List.not_mem_nil, or_false] at hx
        rcases hx with rfl | rfl | rfl
        · exact ⟨wA, _, _, rfl, hAp, d14.but _ _ hAp (z613 _ _ gA6), ((aw14.take k).app (.cons od14 .nil)).app (aw14.drop k), wl_mid k okI hodf hods hil⟩
        · exact ⟨wB, _, _, rfl, hBp, d14.but _ _ hBp ((s1012.trans s13) _ _ gB), (DvAll.app (.cons (e6.keep (z613.off.trans (d14.off pS))) .nil) aw14).app (.cons od14 .nil), wl_front okI hodf hods hil⟩
        · exact ⟨wC, _, _, rfl, hCp, d14.but _ _ hCp (s13 _ _ gC), aw14.app (.cons od14 .nil), wl_end okI hodf hods hil⟩
      have b14 : But p H6 H14 := b9.trans ((But.of u13).trans d14.but)
      have P14 := d14.pen
      have gL14 := b14 _ _ hLp gL6
      have hid14 : Hid [p] H14 := Hid.one P14
      have hLwn : Lw ∉ [p] := fun z => hLwp (List.mem_singleton.mp z)
      clear aw9 hodv od14 gA gA6 gB gC e6 u3 u5 u6 u10 u12 u13 z613 s13 s1012 s610 s12 s11 o914 s6
      -- wrong once more
      have hyl : ys.length ≤ 20 := by rw [hys.len]; exact hwl.len
      refine ⟨_, rfl, _, rfl, _, rfl, Lw, ys, rfl, SqL.of gLw, fun r1 hr1 => ?_⟩
      have s1 := Same.new (o := .lst ys.reverse) hr1
      have e1 : Dv K (OffS [p] (upd H14 r1 (.lst ys.reverse))) (.ref r1) (.list ds.reverse) := new_lst hr1 hid14 hys.rev
      have hid1 := hid14.keep s1
      generalize upd H14 r1 (.lst ys.reverse) = G1 at s1 e1 hid1 ⊢
      refine ⟨_, rfl, L, xs, rfl, .inl ⟨SqL.of (s1 _ _ gL14), fun r2 hr2 => ?_⟩⟩
      have s2 := Same.new (o := .tup xs) hr2
      have e2 : Dv K (OffS [p] (upd G1 r2 (.tup xs))) (.ref r2) (.tuple (idat is)) := new_tup hr2 hid1 (aw14.keep s1.off)
      have hid2 := hid1.keep s2
      generalize upd G1 r2 (.tup xs) = G2 at s2 e2 hid2 ⊢
      refine fun r3 hr3 => ?_
      have s3 := Same.new (o := .dK []) hr3
      have e3 : Dv K (OffS [p] (upd G2 r3 (.dK []))) (.ref r3) (.dict []) := new_dic hr3 hid2
      have s23 := s2.trans s3
      have s13 := s1.trans s23
      generalize upd G2 r3 (.dK []) = G3 at s3 e3 s23 s13 ⊢
      refine ⟨by show 6 ≤ sizeLine; decide, fun lz hlz => ?_⟩
      have s4 := Same.new (o := .lst [.ref Lw, .ref r1, .ref r2, .non, .ref r3, .str "work"]) hlz
      have s14 := s13.trans s4
      refine ⟨p, c, lz, _, _, rfl, P14.keep s14, SqL.of upd_same, Ne.symm ((P14.keep s13).ne hlz), by simp, by show 6 ≤ 1000; decide, by omega, fun y H15 hy d15 => ?_⟩
      have z4 := s4.off.trans (d15.off pS)
      have wLw : Dv K (OffS [p] H14) (.ref Lw) (.list ds) := at_lst gLw hLwn hys
      obtain ⟨dy, hyv, hyb⟩ : ∃ d, Dv K (OffS [p] H15) y d ∧ BadW d := by
        simp only [List.mem_cons, List.not_mem_nil, or_false] at hy
        rcases hy with rfl | rfl | rfl | rfl | rfl | rfl
        · exact ⟨_, (wLw.keep s13.off).keep z4, hwl.badW⟩
        · exact ⟨_, (e1.keep s23.off).keep z4, hwl.rev.badW⟩
        · exact ⟨_, (e2.keep s3.off).keep z4, sz_lim (sz_all (fun d hd => by
            obtain ⟨i, hi, rfl⟩ := List.mem_map.mp hd
            exact sz_insD (okI i hi)) (by show (is.map Ins.dat).length ≤ 20; rw [List.length_map]; omega)).2, rfl⟩
        · exact ⟨_, .non, ⟨by decide, by decide⟩, rfl⟩
        · exact ⟨_, e3.keep z4, ⟨by decide, by decide⟩, rfl⟩
        · exact ⟨_, .str _, ⟨by decide +kernel, by decide +kernel⟩, rfl⟩
      have b15 : But p H6 H15 := b14.trans ((But.of s14).trans d15.but)
      have P15 := d15.pen
      have gL15 := b15 _ _ hLp gL6
      have hS15 := hS6.ts (KS.but b15 gp6).ts
      clear e1 e2 e3 s1 s2 s3 s23 s13 s4 s14 z4 hid1 hid2 aw14 hys gLw gL14 hid14 b14 wLw
      -- told
      refine ⟨_, rfl, _, rfl, sv, y, rfl, .inr (.inl ⟨F, r, w, dy, hS15, okS, hyv.on, hyb.1, hyb.2, fun H16 s16 => ?_⟩)⟩
      refine ⟨rfl, _, rfl, ifF rfl ?_⟩
      refine ⟨_, rfl, _, rfl, p, c, _, sv, F, r, w, rfl, P15.keep s16, by omega, hS15.ts (.of s16), okS, fun x2 d2 H17 hx2 hb2 d17 => ?_⟩
      refine ⟨_, rfl, x2, .ref L, rfl, .inl ⟨d2, hx2, hb2.1, hb2.2, fun H18 s18 => ?_⟩⟩
      refine ⟨rfl, _, rfl, ifF rfl ?_⟩
      have b18 : But p H6 H18 := b15.trans ((But.of s16).trans (d17.but.trans (But.of s18)))
      have P18 := d17.pen.keep s18
      have hS18 := hS6.ts (KS.but b18 gp6).ts
      refine ⟨_, rfl, _, rfl, p, c, _, sv, F, r, w, rfl, P18, by omega, hS18, okS, fun x3 d3' H19 hx3 hb3 d19 => ?_⟩
      refine ⟨_, rfl, x3, y, rfl, .inl ⟨d3', hx3, hb3.1, hb3.2, fun H20 s20 => ?_⟩⟩
      refine ⟨rfl, _, rfl, ifF rfl ?_⟩
      exact ⟨_, _, _, _, _, _, _, _, _, _, _, rfl, (d19.pen.keep s20).mono (by omega)⟩
    · rintro σ H' ⟨v2, v3, v4, v5, v6, v7, v8, v9, v10, v11, v12, rfl, P2⟩
      exact q H'

end
theorem all_mk {l : PySem.W.OpenLaw} {w : World} {K : PySem.W.Frag} {h : Heap} {mg : Str → Option Value} {fa : Addr} (X : K.In h) (G : h.Ns mainGlobals mg) (hfa : mg "law" = some (.ref fa))
    {C0 : Addr} (cC0 : PySem.W.nsIn K mainGlobals "FieldError" = some (some (.ref C0)))
    (rd0 : PySem.W.readsIn K C0 (.type "type") = true) (ga0 : PySem.W.specialIn K (.ref C0) "__getattribute__" = some (some (.builtin "type.__getattribute__"))) (in0 : PySem.W.findCls K (.ref C0) (.type "type") "__init__" = some (.val (.builtin "ValueError.__init__")))
    (rb0 : PySem.W.subIn K (.ref C0) (.type "BaseException") = some true) (rt0 : PySem.W.typeIn K (.ref C0) = some (.type "type")) (rc0 : PySem.W.hasDictIn K C0 = true)
    {C1 : Addr} (cC1 : PySem.W.nsIn K mainGlobals "NoSetting" = some (some (.ref C1)))
    (kC1 : PySem.W.keepIn K (.ref C1) = true) (eC1 : PySem.W.subIn K (.ref C1) (.type "BaseException") = some true) (tC1 : PySem.W.typeIn K (.ref C1) = some (.type "type")) (uC1 : PySem.W.subIn K (.ref C1) (.ref C0) = some true)
    (xC1 : PySem.W.excIn K C1 [.type "ValueError", .type "Exception", .type "BaseException", .type "object"] "ValueError.__new__" = true)
    {C2 : Addr} (cC2 : PySem.W.nsIn K mainGlobals "NoValue" = some (some (.ref C2)))
    (kC2 : PySem.W.keepIn K (.ref C2) = true) (eC2 : PySem.W.subIn K (.ref C2) (.type "BaseException") = some true) (tC2 : PySem.W.typeIn K (.ref C2) = some (.type "type")) (uC2 : PySem.W.subIn K (.ref C2) (.ref C0) = some true)
    (xC2 : PySem.W.excIn K C2 [.type "ValueError", .type "Exception", .type "BaseException", .type "object"] "ValueError.__new__" = true)
    {C3 : Addr} (cC3 : PySem.W.nsIn K mainGlobals "BadTable" = some (some (.ref C3)))
    (kC3 : PySem.W.keepIn K (.ref C3) = true) (eC3 : PySem.W.subIn K (.ref C3) (.type "BaseException") = some true) (tC3 : PySem.W.typeIn K (.ref C3) = some (.type "type")) (uC3 : PySem.W.subIn K (.ref C3) (.ref C0) = some true)
    {nm3 q3 : Str} {N3 : Addr} {bs3 bm3 : List Value} {sn3 : List Str} {sub3 : List Value} {ab3 : Bool} {col3 : Option Bool} {dd3 : Option Addr} {m03 m13 m23 m33 m53 : Option Value}
    (xL3 : K.lookup C3 = some (excClassObj nm3 q3 C3 N3 bs3 bm3 true sn3 sub3 ab3 col3 dd3 m03 m13 m23 m33 m53 "ValueError.__new__")) (rv3 : PySem.HandSPX.refsVE bm3 = true)
    (sa3 : PySem.W.findIn K (.ref C3) "__setattr__" = some (some (.builtin "object.__setattr__"))) (nb3 : PySem.W.findIn K (.ref C3) "number" = some none)
    {C4 : Addr} (cC4 : PySem.W.nsIn K mainGlobals "Table" = some (some (.ref C4)))
    (pg4 : PySem.W.plainGet K C4 Str.empty = true) (hd4 : PySem.W.hasDictIn K C4 = true) (po4 : PySem.W.plainOver K C4 = true) (sa4 : PySem.W.findIn K (.ref C4) "__setattr__" = some (some (.builtin "object.__setattr__"))) (mk4 : PySem.W.makesIn K C4 = true) (kC4 : PySem.W.keepIn K (.ref C4) = true)
    (n4_0 : PySem.W.findIn K (.ref C4) "setting" = some none)
    (n4_1 : PySem.W.findIn K (.ref C4) "bound" = some none)
    (n4_2 : PySem.W.findIn K (.ref C4) "made" = some none)
    (n4_3 : PySem.W.findIn K (.ref C4) "kept" = some none)
    (xn_ : PySem.W.specialIn K (.builtin "object.__class__") "__get__" = some (some (.builtin "getset_descriptor.__get__"))) (xt_ : PySem.W.takesIn K (.builtin "object.__class__") = some true)
    (xg3 : PySem.W.findIn K (.ref C3) "__getattribute__" = some (some (.builtin "BaseException.__getattribute__"))) (xk3 : PySem.W.findIn K (.ref C3) "__getattr__" = some none) (xs3 : PySem.W.subIn K (.ref C3) (.type "BaseException") = some true) (xd3 : PySem.W.hasDictIn K C3 = true) (xa3 : PySem.W.findIn K (.ref C3) "__class__" = some (some (.builtin "object.__class__"))) (xm3 : PySem.W.mroIn K C3 (.type "object") = some true) (xy3 : PySem.W.typeIn K (.ref C3) = some (.type "type")) (xz3 : PySem.W.subIn K (.type "NoneType") (.ref C3) = some false)
    (xg1 : PySem.W.findIn K (.ref C1) "__getattribute__" = some (some (.builtin "BaseException.__getattribute__"))) (xk1 : PySem.W.findIn K (.ref C1) "__getattr__" = some none) (xs1 : PySem.W.subIn K (.ref C1) (.type "BaseException") = some true) (xd1 : PySem.W.hasDictIn K C1 = true) (xa1 : PySem.W.findIn K (.ref C1) "__class__" = some (some (.builtin "object.__class__"))) (xm1 : PySem.W.mroIn K C1 (.type "object") = some true) (xy1 : PySem.W.typeIn K (.ref C1) = some (.type "type")) (xz1 : PySem.W.subIn K (.type "NoneType") (.ref C1) = some false)
    (xg2 : PySem.W.findIn K (.ref C2) "__getattribute__" = some (some (.builtin "BaseException.__getattribute__"))) (xk2 : PySem.W.findIn K (.ref C2) "__getattr__" = some none) (xs2 : PySem.W.subIn K (.ref C2) (.type "BaseException") = some true) (xd2 : PySem.W.hasDictIn K C2 = true) (xa2 : PySem.W.findIn K (.ref C2) "__class__" = some (some (.builtin "object.__class__"))) (xm2 : PySem.W.mroIn K C2 (.type "object") = some true) (xy2 : PySem.W.typeIn K (.ref C2) = some (.type "type")) (xz2 : PySem.W.subIn K (.type "NoneType") (.ref C2) = some false)
    (xu1_1 : PySem.W.subIn K (.ref C1) (.ref C1) = some true)
    (xu1_2 : PySem.W.subIn K (.ref C1) (.ref C2) = some false)
    (xu1_3 : PySem.W.subIn K (.ref C1) (.ref C3) = some false)
    (xu2_1 : PySem.W.subIn K (.ref C2) (.ref C1) = some false)
    (xu2_2 : PySem.W.subIn K (.ref C2) (.ref C2) = some true)
    (xu2_3 : PySem.W.subIn K (.ref C2) (.ref C3) = some false)
    (xu3_1 : PySem.W.subIn K (.ref C3) (.ref C1) = some false)
    (xu3_2 : PySem.W.subIn K (.ref C3) (.ref C2) = some false)
    (xu3_3 : PySem.W.subIn K (.ref C3) (.ref C3) = some true)
    {f0 : Addr} {od0 an0 : Option Addr} {sl0 : Array (Option Value)} {oc0 kV0 dc0 pm0 cd0 ct0 : Value}
    (a0 : PySem.W.nsIn K mainGlobals "_wall" = some (some (.ref f0))) (l0 : K.lookup f0 = some ⟨oc0, od0, .func (PySem.W.fnOf "_wall" "_wall" (defArgs s_wall) (defBody s_wall) (defScope s_wall) .none kV0 dc0 pm0 an0 cd0 ct0), sl0⟩) (c0 : PySem.W.codeIn K cd0 "_wall" = true) (k0 : PySem.W.keepIn K (.ref f0) = true)
    {f1 : Addr} {od1 an1 : Option Addr} {sl1 : Array (Option Value)} {oc1 kV1 dc1 pm1 cd1 ct1 : Value}
    (a1 : PySem.W.findIn K (.ref C3) "__init__" = some (some (.ref f1))) (l1 : K.lookup f1 = some ⟨oc1, od1, .func (PySem.W.fnOf "__init__" "BadTable.__init__" (defArgs s_BadTable_init) (defBody s_BadTable_init) (defScope s_BadTable_init) .none kV1 dc1 pm1 an1 cd1 ct1), sl1⟩) (c1 : PySem.W.codeIn K cd1 "BadTable.__init__" = true) (k1 : PySem.W.keepIn K (.ref f1) = true)
    (i1 : PySem.W.isFn K (.ref f1) = true) (t1 : PySem.W.typeIn K (.ref f1) = some (.type "function"))
    {f2 : Addr} {od2 an2 : Option Addr} {sl2 : Array (Option Value)} {oc2 kV2 dc2 pm2 cd2 ct2 : Value}
    (a2 : PySem.W.nsIn K mainGlobals "is_between" = some (some (.ref f2))) (l2 : K.lookup f2 = some ⟨oc2, od2, .func (PySem.W.fnOf "is_between" "is_between" (defArgs s_is_between) (defBody s_is_between) (defScope s_is_between) .none kV2 dc2 pm2 an2 cd2 ct2), sl2⟩) (c2 : PySem.W.codeIn K cd2 "is_between" = true) (k2 : PySem.W.keepIn K (.ref f2) = true)
    {f3 : Addr} {od3 an3 : Option Addr} {sl3 : Array (Option Value)} {oc3 kV3 dc3 pm3 cd3 ct3 : Value}
    (a3 : PySem.W.nsIn K mainGlobals "is_number" = some (some (.ref f3))) (l3 : K.lookup f3 = some ⟨oc3, od3, .func (PySem.W.fnOf "is_number" "is_number" (defArgs s_is_number) (defBody s_is_number) (defScope s_is_number) .none kV3 dc3 pm3 an3 cd3 ct3), sl3⟩) (c3 : PySem.W.codeIn K cd3 "is_number" = true) (k3 : PySem.W.keepIn K (.ref f3) = true)
    {f4 : Addr} {od4 an4 : Option Addr} {sl4 : Array (Option Value)} {oc4 kV4 dc4 pm4 cd4 ct4 : Value}
    (a4 : PySem.W.nsIn K mainGlobals "is_text" = some (some (.ref f4))) (l4 : K.lookup f4 = some ⟨oc4, od4, .func (PySem.W.fnOf "is_text" "is_text" (defArgs s_is_text) (defBody s_is_text) (defScope s_is_text) .none kV4 dc4 pm4 an4 cd4 ct4), sl4⟩) (c4 : PySem.W.codeIn K cd4 "is_text" = true) (k4 : PySem.W.keepIn K (.ref f4) = true)
    {f5 : Addr} {od5 an5 : Option Addr} {sl5 : Array (Option Value)} {oc5 kV5 dc5 pm5 cd5 ct5 : Value}
    (a5 : PySem.W.nsIn K mainGlobals "is_name" = some (some (.ref f5))) (l5 : K.lookup f5 = some ⟨oc5, od5, .func (PySem.W.fnOf "is_name" "is_name" (defArgs s_is_name) (defBody s_is_name) (defScope s_is_name) .none kV5 dc5 pm5 an5 cd5 ct5), sl5⟩) (c5 : PySem.W.codeIn K cd5 "is_name" = true) (k5 : PySem.W.keepIn K (.ref f5) = true)
    {f6 : Addr} {od6 an6 : Option Addr} {sl6 : Array (Option Value)} {oc6 kV6 dc6 pm6 cd6 ct6 : Value}
    (a6 : PySem.W.nsIn K mainGlobals "is_value" = some (some (.ref f6))) (l6 : K.lookup f6 = some ⟨oc6, od6, .func (PySem.W.fnOf "is_value" "is_value" (defArgs s_is_value) (defBody s_is_value) (defScope s_is_value) .none kV6 dc6 pm6 an6 cd6 ct6), sl6⟩) (c6 : PySem.W.codeIn K cd6 "is_value" = true) (k6 : PySem.W.keepIn K (.ref f6) = true)
    {f7 : Addr} {od7 an7 : Option Addr} {sl7 : Array (Option Value)} {oc7 kV7 dc7 pm7 cd7 ct7 : Value}
    (a7 : PySem.W.nsIn K mainGlobals "is_field" = some (some (.ref f7))) (l7 : K.lookup f7 = some ⟨oc7, od7, .func (PySem.W.fnOf "is_field" "is_field" (defArgs s_is_field) (defBody s_is_field) (defScope s_is_field) .none kV7 dc7 pm7 an7 cd7 ct7), sl7⟩) (c7 : PySem.W.codeIn K cd7 "is_field" = true) (k7 : PySem.W.keepIn K (.ref f7) = true)
    {f8 : Addr} {od8 an8 : Option Addr} {sl8 : Array (Option Value)} {oc8 kV8 dc8 pm8 cd8 ct8 : Value}
    (a8 : PySem.W.nsIn K mainGlobals "is_tuple_of_fields" = some (some (.ref f8))) (l8 : K.lookup f8 = some ⟨oc8, od8, .func (PySem.W.fnOf "is_tuple_of_fields" "is_tuple_of_fields" (defArgs s_is_tuple_of_fields) (defBody s_is_tuple_of_fields) (defScope s_is_tuple_of_fields) .none kV8 dc8 pm8 an8 cd8 ct8), sl8⟩) (c8 : PySem.W.codeIn K cd8 "is_tuple_of_fields" = true) (k8 : PySem.W.keepIn K (.ref f8) = true)
    {f9 : Addr} {od9 an9 : Option Addr} {sl9 : Array (Option Value)} {oc9 kV9 dc9 pm9 cd9 ct9 : Value}
    (a9 : PySem.W.nsIn K mainGlobals "is_setting" = some (some (.ref f9))) (l9 : K.lookup f9 = some ⟨oc9, od9, .func (PySem.W.fnOf "is_setting" "is_setting" (defArgs s_is_setting) (defBody s_is_setting) (defScope s_is_setting) .none kV9 dc9 pm9 an9 cd9 ct9), sl9⟩) (c9 : PySem.W.codeIn K cd9 "is_setting" = true) (k9 : PySem.W.keepIn K (.ref f9) = true)
    {f10 : Addr} {od10 an10 : Option Addr} {sl10 : Array (Option Value)} {oc10 kV10 dc10 pm10 cd10 ct10 : Value}
    (a10 : PySem.W.nsIn K mainGlobals "check_setting" = some (some (.ref f10))) (l10 : K.lookup f10 = some ⟨oc10, od10, .func (PySem.W.fnOf "check_setting" "check_setting" (defArgs s_check_setting) (defBody s_check_setting) (defScope s_check_setting) .none kV10 dc10 pm10 an10 cd10 ct10), sl10⟩) (c10 : PySem.W.codeIn K cd10 "check_setting" = true) (k10 : PySem.W.keepIn K (.ref f10) = true)
    {f11 : Addr} {od11 an11 : Option Addr} {sl11 : Array (Option Value)} {oc11 kV11 dc11 pm11 cd11 ct11 : Value}
    (a11 : PySem.W.nsIn K mainGlobals "is_instruction" = some (some (.ref f11))) (l11 : K.lookup f11 = some ⟨oc11, od11, .func (PySem.W.fnOf "is_instruction" "is_instruction" (defArgs s_is_instruction) (defBody s_is_instruction) (defScope s_is_instruction) .none kV11 dc11 pm11 an11 cd11 ct11), sl11⟩) (c11 : PySem.W.codeIn K cd11 "is_instruction" = true) (k11 : PySem.W.keepIn K (.ref f11) = true)
    {f12 : Addr} {od12 an12 : Option Addr} {sl12 : Array (Option Value)} {oc12 kV12 dc12 pm12 cd12 ct12 : Value}
    (a12 : PySem.W.nsIn K mainGlobals "run_table" = some (some (.ref f12))) (l12 : K.lookup f12 = some ⟨oc12, od12, .func (PySem.W.fnOf "run_table" "run_table" (defArgs s_run_table) (defBody s_run_table) (defScope s_run_table) .none kV12 dc12 pm12 an12 cd12 ct12), sl12⟩) (c12 : PySem.W.codeIn K cd12 "run_table" = true) (k12 : PySem.W.keepIn K (.ref f12) = true)
    {f13 : Addr} {od13 an13 : Option Addr} {sl13 : Array (Option Value)} {oc13 kV13 dc13 pm13 cd13 ct13 : Value}
    (a13 : PySem.W.nsIn K mainGlobals "said_field" = some (some (.ref f13))) (l13 : K.lookup f13 = some ⟨oc13, od13, .func (PySem.W.fnOf "said_field" "said_field" (defArgs s_said_field) (defBody s_said_field) (defScope s_said_field) .none kV13 dc13 pm13 an13 cd13 ct13), sl13⟩) (c13 : PySem.W.codeIn K cd13 "said_field" = true) (k13 : PySem.W.keepIn K (.ref f13) = true)
    {f14 : Addr} {od14 an14 : Option Addr} {sl14 : Array (Option Value)} {oc14 kV14 dc14 pm14 cd14 ct14 : Value}
    (a14 : PySem.W.nsIn K mainGlobals "referred" = some (some (.ref f14))) (l14 : K.lookup f14 = some ⟨oc14, od14, .func (PySem.W.fnOf "referred" "referred" (defArgs s_referred) (defBody s_referred) (defScope s_referred) .none kV14 dc14 pm14 an14 cd14 ct14), sl14⟩) (c14 : PySem.W.codeIn K cd14 "referred" = true) (k14 : PySem.W.keepIn K (.ref f14) = true)
    {f15 : Addr} {od15 an15 : Option Addr} {sl15 : Array (Option Value)} {oc15 kV15 dc15 pm15 cd15 ct15 : Value}
    (a15 : PySem.W.nsIn K mainGlobals "entry_size" = some (some (.ref f15))) (l15 : K.lookup f15 = some ⟨oc15, od15, .func (PySem.W.fnOf "entry_size" "entry_size" (defArgs s_entry_size) (defBody s_entry_size) (defScope s_entry_size) .none kV15 dc15 pm15 an15 cd15 ct15), sl15⟩) (c15 : PySem.W.codeIn K cd15 "entry_size" = true) (k15 : PySem.W.keepIn K (.ref f15) = true)
    {f16 : Addr} {od16 an16 : Option Addr} {sl16 : Array (Option Value)} {oc16 kV16 dc16 pm16 cd16 ct16 : Value}
    (a16 : PySem.W.findIn K (.ref C4) "__init__" = some (some (.ref f16))) (l16 : K.lookup f16 = some ⟨oc16, od16, .func (PySem.W.fnOf "__init__" "Table.__init__" (defArgs s_Table_init) (defBody s_Table_init) (defScope s_Table_init) .none kV16 dc16 pm16 an16 cd16 ct16), sl16⟩) (c16 : PySem.W.codeIn K cd16 "Table.__init__" = true) (k16 : PySem.W.keepIn K (.ref f16) = true)
    (i16 : PySem.W.isFn K (.ref f16) = true) (t16 : PySem.W.typeIn K (.ref f16) = some (.type "function"))
    {f17 : Addr} {od17 an17 : Option Addr} {sl17 : Array (Option Value)} {oc17 kV17 dc17 pm17 cd17 ct17 : Value}
    (a17 : PySem.W.findIn K (.ref C4) "copied" = some (some (.ref f17))) (l17 : K.lookup f17 = some ⟨oc17, od17, .func (PySem.W.fnOf "copied" "Table.copied" (defArgs s_Table_copied) (defBody s_Table_copied) (defScope s_Table_copied) .none kV17 dc17 pm17 an17 cd17 ct17), sl17⟩) (c17 : PySem.W.codeIn K cd17 "Table.copied" = true) (k17 : PySem.W.keepIn K (.ref f17) = true)
    (i17 : PySem.W.isFn K (.ref f17) = true) (t17 : PySem.W.typeIn K (.ref f17) = some (.type "function"))
    {f18 : Addr} {od18 an18 : Option Addr} {sl18 : Array (Option Value)} {oc18 kV18 dc18 pm18 cd18 ct18 : Value}
    (a18 : PySem.W.findIn K (.ref C4) "carry_out" = some (some (.ref f18))) (l18 : K.lookup f18 = some ⟨oc18, od18, .func (PySem.W.fnOf "carry_out" "Table.carry_out" (defArgs s_Table_carry_out) (defBody s_Table_carry_out) (defScope s_Table_carry_out) .none kV18 dc18 pm18 an18 cd18 ct18), sl18⟩) (c18 : PySem.W.codeIn K cd18 "Table.carry_out" = true) (k18 : PySem.W.keepIn K (.ref f18) = true)
    (i18 : PySem.W.isFn K (.ref f18) = true) (t18 : PySem.W.typeIn K (.ref f18) = some (.type "function"))
    {f19 : Addr} {od19 an19 : Option Addr} {sl19 : Array (Option Value)} {oc19 kV19 dc19 pm19 cd19 ct19 : Value}
    (a19 : PySem.W.findIn K (.ref C4) "set_bound" = some (some (.ref f19))) (l19 : K.lookup f19 = some ⟨oc19, od19, .func (PySem.W.fnOf "set_bound" "Table.set_bound" (defArgs s_Table_set_bound) (defBody s_Table_set_bound) (defScope s_Table_set_bound) .none kV19 dc19 pm19 an19 cd19 ct19), sl19⟩) (c19 : PySem.W.codeIn K cd19 "Table.set_bound" = true) (k19 : PySem.W.keepIn K (.ref f19) = true)
    (i19 : PySem.W.isFn K (.ref f19) = true) (t19 : PySem.W.typeIn K (.ref f19) = some (.type "function"))
    {f20 : Addr} {od20 an20 : Option Addr} {sl20 : Array (Option Value)} {oc20 kV20 dc20 pm20 cd20 ct20 : Value}
    (a20 : PySem.W.findIn K (.ref C4) "inserted" = some (some (.ref f20))) (l20 : K.lookup f20 = some ⟨oc20, od20, .func (PySem.W.fnOf "inserted" "Table.inserted" (defArgs s_Table_inserted) (defBody s_Table_inserted) (defScope s_Table_inserted) .none kV20 dc20 pm20 an20 cd20 ct20), sl20⟩) (c20 : PySem.W.codeIn K cd20 "Table.inserted" = true) (k20 : PySem.W.keepIn K (.ref f20) = true)
    (i20 : PySem.W.isFn K (.ref f20) = true) (t20 : PySem.W.typeIn K (.ref f20) = some (.type "function"))
    {f21 : Addr} {od21 an21 : Option Addr} {sl21 : Array (Option Value)} {oc21 kV21 dc21 pm21 cd21 ct21 : Value}
    (a21 : PySem.W.findIn K (.ref C4) "has_room" = some (some (.ref f21))) (l21 : K.lookup f21 = some ⟨oc21, od21, .func (PySem.W.fnOf "has_room" "Table.has_room" (defArgs s_Table_has_room) (defBody s_Table_has_room) (defScope s_Table_has_room) .none kV21 dc21 pm21 an21 cd21 ct21), sl21⟩) (c21 : PySem.W.codeIn K cd21 "Table.has_room" = true) (k21 : PySem.W.keepIn K (.ref f21) = true)
    (i21 : PySem.W.isFn K (.ref f21) = true) (t21 : PySem.W.typeIn K (.ref f21) = some (.type "function"))
    {f22 : Addr} {od22 an22 : Option Addr} {sl22 : Array (Option Value)} {oc22 kV22 dc22 pm22 cd22 ct22 : Value}
    (a22 : PySem.W.findIn K (.ref C4) "leaving" = some (some (.ref f22))) (l22 : K.lookup f22 = some ⟨oc22, od22, .func (PySem.W.fnOf "leaving" "Table.leaving" (defArgs s_Table_leaving) (defBody s_Table_leaving) (defScope s_Table_leaving) .none kV22 dc22 pm22 an22 cd22 ct22), sl22⟩) (c22 : PySem.W.codeIn K cd22 "Table.leaving" = true) (k22 : PySem.W.keepIn K (.ref f22) = true)
    (i22 : PySem.W.isFn K (.ref f22) = true) (t22 : PySem.W.typeIn K (.ref f22) = some (.type "function"))
    {f23 : Addr} {od23 an23 : Option Addr} {sl23 : Array (Option Value)} {oc23 kV23 dc23 pm23 cd23 ct23 : Value}
    (a23 : PySem.W.findIn K (.ref C4) "drop" = some (some (.ref f23))) (l23 : K.lookup f23 = some ⟨oc23, od23, .func (PySem.W.fnOf "drop" "Table.drop" (defArgs s_Table_drop) (defBody s_Table_drop) (defScope s_Table_drop) .none kV23 dc23 pm23 an23 cd23 ct23), sl23⟩) (c23 : PySem.W.codeIn K cd23 "Table.drop" = true) (k23 : PySem.W.keepIn K (.ref f23) = true)
    (i23 : PySem.W.isFn K (.ref f23) = true) (t23 : PySem.W.typeIn K (.ref f23) = some (.type "function"))
    {f24 : Addr} {od24 an24 : Option Addr} {sl24 : Array (Option Value)} {oc24 kV24 dc24 pm24 cd24 ct24 : Value}
    (a24 : PySem.W.nsIn K mainGlobals "_law_open" = some (some (.ref f24))) (l24 : K.lookup f24 = some ⟨oc24, od24, .func (PySem.W.fnOf "_law_open" "_law_open" (defArgs s_law_open) (defBody s_law_open) (defScope s_law_open) .none kV24 dc24 pm24 an24 cd24 ct24), sl24⟩) (c24 : PySem.W.codeIn K cd24 "_law_open" = true) (k24 : PySem.W.keepIn K (.ref f24) = true)
    {f25 : Addr} {od25 an25 : Option Addr} {sl25 : Array (Option Value)} {oc25 kV25 dc25 pm25 cd25 ct25 : Value}
    (a25 : PySem.W.nsIn K mainGlobals "_law_spread" = some (some (.ref f25))) (l25 : K.lookup f25 = some ⟨oc25, od25, .func (PySem.W.fnOf "_law_spread" "_law_spread" (defArgs s_law_spread) (defBody s_law_spread) (defScope s_law_spread) .none kV25 dc25 pm25 an25 cd25 ct25), sl25⟩) (c25 : PySem.W.codeIn K cd25 "_law_spread" = true) (k25 : PySem.W.keepIn K (.ref f25) = true)
    {f26 : Addr} {od26 an26 : Option Addr} {sl26 : Array (Option Value)} {oc26 kV26 dc26 pm26 cd26 ct26 : Value}
    (a26 : PySem.W.nsIn K mainGlobals "_law_take" = some (some (.ref f26))) (l26 : K.lookup f26 = some ⟨oc26, od26, .func (PySem.W.fnOf "_law_take" "_law_take" (defArgs s_law_take) (defBody s_law_take) (defScope s_law_take) .none kV26 dc26 pm26 an26 cd26 ct26), sl26⟩) (c26 : PySem.W.codeIn K cd26 "_law_take" = true) (k26 : PySem.W.keepIn K (.ref f26) = true)
    {f27 : Addr} {od27 an27 : Option Addr} {sl27 : Array (Option Value)} {oc27 kV27 dc27 pm27 cd27 ct27 : Value}
    (a27 : PySem.W.nsIn K mainGlobals "_law_same" = some (some (.ref f27))) (l27 : K.lookup f27 = some ⟨oc27, od27, .func (PySem.W.fnOf "_law_same" "_law_same" (defArgs s_law_same) (defBody s_law_same) (defScope s_law_same) .none kV27 dc27 pm27 an27 cd27 ct27), sl27⟩) (c27 : PySem.W.codeIn K cd27 "_law_same" = true) (k27 : PySem.W.keepIn K (.ref f27) = true)
    {f28 : Addr} {od28 an28 : Option Addr} {sl28 : Array (Option Value)} {oc28 kV28 dc28 pm28 cd28 ct28 : Value}
    (a28 : PySem.W.nsIn K mainGlobals "_law_one_of" = some (some (.ref f28))) (l28 : K.lookup f28 = some ⟨oc28, od28, .func (PySem.W.fnOf "_law_one_of" "_law_one_of" (defArgs s_law_one_of) (defBody s_law_one_of) (defScope s_law_one_of) .none kV28 dc28 pm28 an28 cd28 ct28), sl28⟩) (c28 : PySem.W.codeIn K cd28 "_law_one_of" = true) (k28 : PySem.W.keepIn K (.ref f28) = true)
    {f29 : Addr} {od29 an29 : Option Addr} {sl29 : Array (Option Value)} {oc29 kV29 dc29 pm29 cd29 ct29 : Value}
    (a29 : PySem.W.nsIn K mainGlobals "_law_signs" = some (some (.ref f29))) (l29 : K.lookup f29 = some ⟨oc29, od29, .func (PySem.W.fnOf "_law_signs" "_law_signs" (defArgs s_law_signs) (defBody s_law_signs) (defScope s_law_signs) .none kV29 dc29 pm29 an29 cd29 ct29), sl29⟩) (c29 : PySem.W.codeIn K cd29 "_law_signs" = true) (k29 : PySem.W.keepIn K (.ref f29) = true)
    {f30 : Addr} {od30 an30 : Option Addr} {sl30 : Array (Option Value)} {oc30 kV30 dc30 pm30 cd30 ct30 : Value}
    (a30 : PySem.W.nsIn K mainGlobals "_law_draw_text" = some (some (.ref f30))) (l30 : K.lookup f30 = some ⟨oc30, od30, .func (PySem.W.fnOf "_law_draw_text" "_law_draw_text" (defArgs s_law_draw_text) (defBody s_law_draw_text) (defScope s_law_draw_text) .none kV30 dc30 pm30 an30 cd30 ct30), sl30⟩) (c30 : PySem.W.codeIn K cd30 "_law_draw_text" = true) (k30 : PySem.W.keepIn K (.ref f30) = true)
    {f31 : Addr} {od31 an31 : Option Addr} {sl31 : Array (Option Value)} {oc31 kV31 dc31 pm31 cd31 ct31 : Value}
    (a31 : PySem.W.nsIn K mainGlobals "_law_draw_near_field" = some (some (.ref f31))) (l31 : K.lookup f31 = some ⟨oc31, od31, .func (PySem.W.fnOf "_law_draw_near_field" "_law_draw_near_field" (defArgs s_law_draw_near_field) (defBody s_law_draw_near_field) (defScope s_law_draw_near_field) .none kV31 dc31 pm31 an31 cd31 ct31), sl31⟩) (c31 : PySem.W.codeIn K cd31 "_law_draw_near_field" = true) (k31 : PySem.W.keepIn K (.ref f31) = true)
    {f32 : Addr} {od32 an32 : Option Addr} {sl32 : Array (Option Value)} {oc32 kV32 dc32 pm32 cd32 ct32 : Value}
    (a32 : PySem.W.nsIn K mainGlobals "_law_draw_setting" = some (some (.ref f32))) (l32 : K.lookup f32 = some ⟨oc32, od32, .func (PySem.W.fnOf "_law_draw_setting" "_law_draw_setting" (defArgs s_law_draw_setting) (defBody s_law_draw_setting) (defScope s_law_draw_setting) .none kV32 dc32 pm32 an32 cd32 ct32), sl32⟩) (c32 : PySem.W.codeIn K cd32 "_law_draw_setting" = true) (k32 : PySem.W.keepIn K (.ref f32) = true)
    {f33 : Addr} {od33 an33 : Option Addr} {sl33 : Array (Option Value)} {oc33 kV33 dc33 pm33 cd33 ct33 : Value}
    (a33 : PySem.W.nsIn K mainGlobals "_law_size" = some (some (.ref f33))) (l33 : K.lookup f33 = some ⟨oc33, od33, .func (PySem.W.fnOf "_law_size" "_law_size" (defArgs s_law_size) (defBody s_law_size) (defScope s_law_size) .none kV33 dc33 pm33 an33 cd33 ct33), sl33⟩) (c33 : PySem.W.codeIn K cd33 "_law_size" = true) (k33 : PySem.W.keepIn K (.ref f33) = true)
    {f34 : Addr} {od34 an34 : Option Addr} {sl34 : Array (Option Value)} {oc34 kV34 dc34 pm34 cd34 ct34 : Value}
    (a34 : PySem.W.nsIn K mainGlobals "_law_without_old" = some (some (.ref f34))) (l34 : K.lookup f34 = some ⟨oc34, od34, .func (PySem.W.fnOf "_law_without_old" "_law_without_old" (defArgs s_law_without_old) (defBody s_law_without_old) (defScope s_law_without_old) .none kV34 dc34 pm34 an34 cd34 ct34), sl34⟩) (c34 : PySem.W.codeIn K cd34 "_law_without_old" = true) (k34 : PySem.W.keepIn K (.ref f34) = true)
    {f35 : Addr} {od35 an35 : Option Addr} {sl35 : Array (Option Value)} {oc35 kV35 dc35 pm35 cd35 ct35 : Value}
    (a35 : PySem.W.nsIn K mainGlobals "_law_carried" = some (some (.ref f35))) (l35 : K.lookup f35 = some ⟨oc35, od35, .func (PySem.W.fnOf "_law_carried" "_law_carried" (defArgs s_law_carried) (defBody s_law_carried) (defScope s_law_carried) .none kV35 dc35 pm35 an35 cd35 ct35), sl35⟩) (c35 : PySem.W.codeIn K cd35 "_law_carried" = true) (k35 : PySem.W.keepIn K (.ref f35) = true)
    {f36 : Addr} {od36 an36 : Option Addr} {sl36 : Array (Option Value)} {oc36 kV36 dc36 pm36 cd36 ct36 : Value}
    (a36 : PySem.W.nsIn K mainGlobals "_law_draw_step" = some (some (.ref f36))) (l36 : K.lookup f36 = some ⟨oc36, od36, .func (PySem.W.fnOf "_law_draw_step" "_law_draw_step" (defArgs s_law_draw_step) (defBody s_law_draw_step) (defScope s_law_draw_step) .none kV36 dc36 pm36 an36 cd36 ct36), sl36⟩) (c36 : PySem.W.codeIn K cd36 "_law_draw_step" = true) (k36 : PySem.W.keepIn K (.ref f36) = true)
    {f37 : Addr} {od37 an37 : Option Addr} {sl37 : Array (Option Value)} {oc37 kV37 dc37 pm37 cd37 ct37 : Value}
    (a37 : PySem.W.nsIn K mainGlobals "_law_draw_work" = some (some (.ref f37))) (l37 : K.lookup f37 = some ⟨oc37, od37, .func (PySem.W.fnOf "_law_draw_work" "_law_draw_work" (defArgs s_law_draw_work) (defBody s_law_draw_work) (defScope s_law_draw_work) .none kV37 dc37 pm37 an37 cd37 ct37), sl37⟩) (c37 : PySem.W.codeIn K cd37 "_law_draw_work" = true) (k37 : PySem.W.keepIn K (.ref f37) = true)
    {f38 : Addr} {od38 an38 : Option Addr} {sl38 : Array (Option Value)} {oc38 kV38 dc38 pm38 cd38 ct38 : Value}
    (a38 : PySem.W.nsIn K mainGlobals "_law_wrong_setting" = some (some (.ref f38))) (l38 : K.lookup f38 = some ⟨oc38, od38, .func (PySem.W.fnOf "_law_wrong_setting" "_law_wrong_setting" (defArgs s_law_wrong_setting) (defBody s_law_wrong_setting) (defScope s_law_wrong_setting) .none kV38 dc38 pm38 an38 cd38 ct38), sl38⟩) (c38 : PySem.W.codeIn K cd38 "_law_wrong_setting" = true) (k38 : PySem.W.keepIn K (.ref f38) = true)
    {f39 : Addr} {od39 an39 : Option Addr} {sl39 : Array (Option Value)} {oc39 kV39 dc39 pm39 cd39 ct39 : Value}
    (a39 : PySem.W.nsIn K mainGlobals "_law_told" = some (some (.ref f39))) (l39 : K.lookup f39 = some ⟨oc39, od39, .func (PySem.W.fnOf "_law_told" "_law_told" (defArgs s_law_told) (defBody s_law_told) (defScope s_law_told) .none kV39 dc39 pm39 an39 cd39 ct39), sl39⟩) (c39 : PySem.W.codeIn K cd39 "_law_told" = true) (k39 : PySem.W.keepIn K (.ref f39) = true)
    {f40 : Addr} {od40 an40 : Option Addr} {sl40 : Array (Option Value)} {oc40 kV40 dc40 pm40 cd40 ct40 : Value}
    (a40 : PySem.W.nsIn K mainGlobals "_law_due" = some (some (.ref f40))) (l40 : K.lookup f40 = some ⟨oc40, od40, .func (PySem.W.fnOf "_law_due" "_law_due" (defArgs s_law_due) (defBody s_law_due) (defScope s_law_due) .none kV40 dc40 pm40 an40 cd40 ct40), sl40⟩) (c40 : PySem.W.codeIn K cd40 "_law_due" = true) (k40 : PySem.W.keepIn K (.ref f40) = true)
    {f41 : Addr} {od41 an41 : Option Addr} {sl41 : Array (Option Value)} {oc41 kV41 dc41 pm41 cd41 ct41 : Value}
    (a41 : PySem.W.nsIn K mainGlobals "law" = some (some (.ref f41))) (l41 : K.lookup f41 = some ⟨oc41, od41, .func (PySem.W.fnOf "law" "law" (defArgs s_law) (defBody s_law) (defScope s_law) .none kV41 dc41 pm41 an41 cd41 ct41), sl41⟩) (c41 : PySem.W.codeIn K cd41 "law" = true) (k41 : PySem.W.keepIn K (.ref f41) = true)
    {tk0 : Tok} (v0 : PySem.W.nsIn K mainGlobals "NUMBER_MOST" = some (some (.int 9999 tk0)))
    {tk1 : Tok} (v1 : PySem.W.nsIn K mainGlobals "NAME_MOST" = some (some (.int 20 tk1)))
    {tk2 : Tok} (v2 : PySem.W.nsIn K mainGlobals "VALUE_MOST" = some (some (.int 40 tk2)))
    {tk3 : Tok} (v3 : PySem.W.nsIn K mainGlobals "FIXED_MOST" = some (some (.int 12 tk3)))
    {tk4 : Tok} (v4 : PySem.W.nsIn K mainGlobals "ROOM_MOST" = some (some (.int 120 tk4)))
    {tk5 : Tok} (v5 : PySem.W.nsIn K mainGlobals "WAITING_MOST" = some (some (.int 4 tk5)))
    {ad6 : Addr} {es6 : Array DictEntry} {nd6 : Nat} (v6 : PySem.W.nsIn K mainGlobals "CHARACTERS" = some (some (.ref ad6))) (w6 : K.lookup ad6 = some ⟨.type "dict", none, .dict es6 nd6, #[]⟩) (e6 : EntI es6.toList chars) (q6 : (ad6 == sysModules) = false)
    {tk7 : Tok} (v7 : PySem.W.nsIn K mainGlobals "SIZE_MORE" = some (some (.int 4 tk7)))
    (z0 : PySem.W.nsIn K mainGlobals "all" = some none)
    (z1 : PySem.W.nsIn K mainGlobals "bool" = some none)
    (z2 : PySem.W.nsIn K mainGlobals "dict" = some none)
    (z3 : PySem.W.nsIn K mainGlobals "enumerate" = some none)
    (z4 : PySem.W.nsIn K mainGlobals "int" = some none)
    (z5 : PySem.W.nsIn K mainGlobals "isinstance" = some none)
    (z6 : PySem.W.nsIn K mainGlobals "len" = some none)
    (z7 : PySem.W.nsIn K mainGlobals "list" = some none)
    (z8 : PySem.W.nsIn K mainGlobals "max" = some none)
    (z9 : PySem.W.nsIn K mainGlobals "min" = some none)
    (z10 : PySem.W.nsIn K mainGlobals "ord" = some none)
    (z11 : PySem.W.nsIn K mainGlobals "range" = some none)
    (z12 : PySem.W.nsIn K mainGlobals "repr" = some none)
    (z13 : PySem.W.nsIn K mainGlobals "sorted" = some none)
    (z14 : PySem.W.nsIn K mainGlobals "str" = some none)
    (z15 : PySem.W.nsIn K mainGlobals "sum" = some none)
    (z16 : PySem.W.nsIn K mainGlobals "tuple" = some none)
    (z17 : PySem.W.nsIn K mainGlobals "zip" = some none)
    : ∃ fd : FuncData, (∀ (s : Shared) (v : Value), BindsTo s fd ⟨[v], []⟩ [("script", v)]) ∧ TopOk l.prog w K mg 13 fa fd ["script"] (spLaw K) := by
  have e := hfa.symm.trans (PySem.W.mg_of X G a41)
  cases e
  have F0 := fun_mk (st := s_wall) l0 c0 k0
  have b0 := F0.binds (ps := ["k"]) fun _ _ _ _ _ _ us hl => match us, hl with | [_], _ => rfl
  have F1 := fun_mk (st := s_BadTable_init) l1 c1 k1
  have b1 := F1.binds (ps := ["self", "number"]) fun _ _ _ _ _ _ us hl => match us, hl with | [_, _], _ => rfl
  have F2 := fun_mk (st := s_is_between) l2 c2 k2
  have b2 := F2.binds (ps := ["thing", "least", "most"]) fun _ _ _ _ _ _ us hl => match us, hl with | [_, _, _], _ => rfl
  have F3 := fun_mk (st := s_is_number) l3 c3 k3
  have b3 := F3.binds (ps := ["thing"]) fun _ _ _ _ _ _ us hl => match us, hl with | [_], _ => rfl
  have F4 := fun_mk (st := s_is_text) l4 c4 k4
  have b4 := F4.binds (ps := ["thing", "least", "most"]) fun _ _ _ _ _ _ us hl => match us, hl with | [_, _, _], _ => rfl
  have F5 := fun_mk (st := s_is_name) l5 c5 k5
  have b5 := F5.binds (ps := ["thing"]) fun _ _ _ _ _ _ us hl => match us, hl with | [_], _ => rfl
  have F6 := fun_mk (st := s_is_value) l6 c6 k6
  have b6 := F6.binds (ps := ["thing"]) fun _ _ _ _ _ _ us hl => match us, hl with | [_], _ => rfl
  have F7 := fun_mk (st := s_is_field) l7 c7 k7
  have b7 := F7.binds (ps := ["thing"]) fun _ _ _ _ _ _ us hl => match us, hl with | [_], _ => rfl
  have F8 := fun_mk (st := s_is_tuple_of_fields) l8 c8 k8
  have b8 := F8.binds (ps := ["thing", "most"]) fun _ _ _ _ _ _ us hl => match us, hl with | [_, _], _ => rfl
  have F9 := fun_mk (st := s_is_setting) l9 c9 k9
  have b9 := F9.binds (ps := ["thing"]) fun _ _ _ _ _ _ us hl => match us, hl with | [_], _ => rfl
  have F10 := fun_mk (st := s_check_setting) l10 c10 k10
  have b10 := F10.binds (ps := ["setting"]) fun _ _ _ _ _ _ us hl => match us, hl with | [_], _ => rfl
  have F11 := fun_mk (st := s_is_instruction) l11 c11 k11
  have b11 := F11.binds (ps := ["thing"]) fun _ _ _ _ _ _ us hl => match us, hl with | [_], _ => rfl
  have F12 := fun_mk (st := s_run_table) l12 c12 k12
  have b12 := F12.binds (ps := ["setting", "instructions"]) fun _ _ _ _ _ _ us hl => match us, hl with | [_, _], _ => rfl
  have F13 := fun_mk (st := s_said_field) l13 c13 k13
  have b13 := F13.binds (ps := ["fixed", "entries", "line"]) fun _ _ _ _ _ _ us hl => match us, hl with | [_, _, _], _ => rfl
  have F14 := fun_mk (st := s_referred) l14 c14 k14
  have b14 := F14.binds (ps := ["fixed", "entries", "kind", "number"]) fun _ _ _ _ _ _ us hl => match us, hl with | [_, _, _, _], _ => rfl
  have F15 := fun_mk (st := s_entry_size) l15 c15 k15
  have b15 := F15.binds (ps := ["field"]) fun _ _ _ _ _ _ us hl => match us, hl with | [_], _ => rfl
  have F16 := fun_mk (st := s_Table_init) l16 c16 k16
  have b16 := F16.binds (ps := ["self", "setting"]) fun _ _ _ _ _ _ us hl => match us, hl with | [_, _], _ => rfl
  have F17 := fun_mk (st := s_Table_copied) l17 c17 k17
  have b17 := F17.binds (ps := ["self"]) fun _ _ _ _ _ _ us hl => match us, hl with | [_], _ => rfl
  have F18 := fun_mk (st := s_Table_carry_out) l18 c18 k18
  have b18 := F18.binds (ps := ["self", "instruction"]) fun _ _ _ _ _ _ us hl => match us, hl with | [_, _], _ => rfl
  have F19 := fun_mk (st := s_Table_set_bound) l19 c19 k19
  have b19 := F19.binds (ps := ["self", "bound"]) fun _ _ _ _ _ _ us hl => match us, hl with | [_, _], _ => rfl
  have F20 := fun_mk (st := s_Table_inserted) l20 c20 k20
  have b20 := F20.binds (ps := ["self", "instruction"]) fun _ _ _ _ _ _ us hl => match us, hl with | [_, _], _ => rfl
  have F21 := fun_mk (st := s_Table_has_room) l21 c21 k21
  have b21 := F21.binds (ps := ["self", "field"]) fun _ _ _ _ _ _ us hl => match us, hl with | [_, _], _ => rfl
  have F22 := fun_mk (st := s_Table_leaving) l22 c22 k22
  have b22 := F22.binds (ps := ["self", "bound", "more"]) fun _ _ _ _ _ _ us hl => match us, hl with | [_, _, _], _ => rfl
  have F23 := fun_mk (st := s_Table_drop) l23 c23 k23
  have b23 := F23.binds (ps := ["self", "numbers"]) fun _ _ _ _ _ _ us hl => match us, hl with | [_, _], _ => rfl
  have F24 := fun_mk (st := s_law_open) l24 c24 k24
  have b24 := F24.binds (ps := ["script"]) fun _ _ _ _ _ _ us hl => match us, hl with | [_], _ => rfl
  have F25 := fun_mk (st := s_law_spread) l25 c25 k25
  have b25 := F25.binds (ps := ["cell", "at"]) fun _ _ _ _ _ _ us hl => match us, hl with | [_, _], _ => rfl
  have F26 := fun_mk (st := s_law_take) l26 c26 k26
  have b26 := F26.binds (ps := ["pen", "amount"]) fun _ _ _ _ _ _ us hl => match us, hl with | [_, _], _ => rfl
  have F27 := fun_mk (st := s_law_same) l27 c27 k27
  have b27 := F27.binds (ps := ["found", "due"]) fun _ _ _ _ _ _ us hl => match us, hl with | [_, _], _ => rfl
  have F28 := fun_mk (st := s_law_one_of) l28 c28 k28
  have b28 := F28.binds (ps := ["pen", "some"]) fun _ _ _ _ _ _ us hl => match us, hl with | [_, _], _ => rfl
  have F29 := fun_mk (st := s_law_signs) l29 c29 k29
  have b29 := F29.binds (ps := []) fun _ _ _ _ _ _ us hl => match us, hl with | [], _ => rfl
  have F30 := fun_mk (st := s_law_draw_text) l30 c30 k30
  have b30 := F30.binds (ps := ["pen", "least", "most"]) fun _ _ _ _ _ _ us hl => match us, hl with | [_, _, _], _ => rfl
  have F31 := fun_mk (st := s_law_draw_near_field) l31 c31 k31
  have b31 := F31.binds (ps := ["pen"]) fun _ _ _ _ _ _ us hl => match us, hl with | [_], _ => rfl
  have F32 := fun_mk (st := s_law_draw_setting) l32 c32 k32
  have b32 := F32.binds (ps := ["pen"]) fun _ _ _ _ _ _ us hl => match us, hl with | [_], _ => rfl
  have F33 := fun_mk (st := s_law_size) l33 c33 k33
  have b33 := F33.binds (ps := ["field"]) fun _ _ _ _ _ _ us hl => match us, hl with | [_], _ => rfl
  have F34 := fun_mk (st := s_law_without_old) l34 c34 k34
  have b34 := F34.binds (ps := ["entries", "bound", "more"]) fun _ _ _ _ _ _ us hl => match us, hl with | [_, _, _], _ => rfl
  have F35 := fun_mk (st := s_law_carried) l35 c35 k35
  have b35 := F35.binds (ps := ["setting", "state", "one"]) fun _ _ _ _ _ _ us hl => match us, hl with | [_, _, _], _ => rfl
  have F36 := fun_mk (st := s_law_draw_step) l36 c36 k36
  have b36 := F36.binds (ps := ["pen", "setting", "state"]) fun _ _ _ _ _ _ us hl => match us, hl with | [_, _, _], _ => rfl
  have F37 := fun_mk (st := s_law_draw_work) l37 c37 k37
  have b37 := F37.binds (ps := ["pen", "setting", "most"]) fun _ _ _ _ _ _ us hl => match us, hl with | [_, _, _], _ => rfl
  have F38 := fun_mk (st := s_law_wrong_setting) l38 c38 k38
  have b38 := F38.binds (ps := ["pen", "setting"]) fun _ _ _ _ _ _ us hl => match us, hl with | [_, _], _ => rfl
  have F39 := fun_mk (st := s_law_told) l39 c39 k39
  have b39 := F39.binds (ps := ["setting", "work"]) fun _ _ _ _ _ _ us hl => match us, hl with | [_, _], _ => rfl
  have F40 := fun_mk (st := s_law_due) l40 c40 k40
  have b40 := F40.binds (ps := ["setting", "work"]) fun _ _ _ _ _ _ us hl => match us, hl with | [_, _], _ => rfl
  have F41 := fun_mk (st := s_law) l41 c41 k41
  have b41 := F41.binds (ps := ["script"]) fun _ _ _ _ _ _ us hl => match us, hl with | [_], _ => rfl
  let T : Txt K mg := {
    f_wall := f0
    d_wall := _
    F_wall := F0
    b_wall := b0
    g_wall := PySem.W.mg_of X G a0
    f_BadTable_init := f1
    d_BadTable_init := _
    F_BadTable_init := F1
    b_BadTable_init := b1
    f_is_between := f2
    d_is_between := _
    F_is_between := F2
    b_is_between := b2
    g_is_between := PySem.W.mg_of X G a2
    f_is_number := f3
    d_is_number := _
    F_is_number := F3
    b_is_number := b3
    g_is_number := PySem.W.mg_of X G a3
    f_is_text := f4
    d_is_text := _
    F_is_text := F4
    b_is_text := b4
    g_is_text := PySem.W.mg_of X G a4
    f_is_name := f5
    d_is_name := _
    F_is_name := F5
    b_is_name := b5
    g_is_name := PySem.W.mg_of X G a5
    f_is_value := f6
    d_is_value := _
    F_is_value := F6
    b_is_value := b6
    g_is_value := PySem.W.mg_of X G a6
    f_is_field := f7
    d_is_field := _
    F_is_field := F7
    b_is_field := b7
    g_is_field := PySem.W.mg_of X G a7
    f_is_tuple_of_fields := f8
    d_is_tuple_of_fields := _
    F_is_tuple_of_fields := F8
    b_is_tuple_of_fields := b8
    g_is_tuple_of_fields := PySem.W.mg_of X G a8
    f_is_setting := f9
    d_is_setting := _
    F_is_setting := F9
    b_is_setting := b9
    g_is_setting := PySem.W.mg_of X G a9
    f_check_setting := f10
    d_check_setting := _
    F_check_setting := F10
    b_check_setting := b10
    g_check_setting := PySem.W.mg_of X G a10
    f_is_instruction := f11
    d_is_instruction := _
    F_is_instruction := F11
    b_is_instruction := b11
    g_is_instruction := PySem.W.mg_of X G a11
    f_run_table := f12
    d_run_table := _
    F_run_table := F12
    b_run_table := b12
    g_run_table := PySem.W.mg_of X G a12
    f_said_field := f13
    d_said_field := _
    F_said_field := F13
    b_said_field := b13
    g_said_field := PySem.W.mg_of X G a13
    f_referred := f14
    d_referred := _
    F_referred := F14
    b_referred := b14
    g_referred := PySem.W.mg_of X G a14
    f_entry_size := f15
    d_entry_size := _
    F_entry_size := F15
    b_entry_size := b15
    g_entry_size := PySem.W.mg_of X G a15
    f_Table_init := f16
    d_Table_init := _
    F_Table_init := F16
    b_Table_init := b16
    f_Table_copied := f17
    d_Table_copied := _
    F_Table_copied := F17
    b_Table_copied := b17
    f_Table_carry_out := f18
    d_Table_carry_out := _
    F_Table_carry_out := F18
    b_Table_carry_out := b18
    f_Table_set_bound := f19
    d_Table_set_bound := _
    F_Table_set_bound := F19
    b_Table_set_bound := b19
    f_Table_inserted := f20
    d_Table_inserted := _
    F_Table_inserted := F20
    b_Table_inserted := b20
    f_Table_has_room := f21
    d_Table_has_room := _
    F_Table_has_room := F21
    b_Table_has_room := b21
    f_Table_leaving := f22
    d_Table_leaving := _
    F_Table_leaving := F22
    b_Table_leaving := b22
    f_Table_drop := f23
    d_Table_drop := _
    F_Table_drop := F23
    b_Table_drop := b23
    f_law_open := f24
    d_law_open := _
    F_law_open := F24
    b_law_open := b24
    g_law_open := PySem.W.mg_of X G a24
    f_law_spread := f25
    d_law_spread := _
    F_law_spread := F25
    b_law_spread := b25
    g_law_spread := PySem.W.mg_of X G a25
    f_law_take := f26
    d_law_take := _
    F_law_take := F26
    b_law_take := b26
    g_law_take := PySem.W.mg_of X G a26
    f_law_same := f27
    d_law_same := _
    F_law_same := F27
    b_law_same := b27
    g_law_same := PySem.W.mg_of X G a27
    f_law_one_of := f28
    d_law_one_of := _
    F_law_one_of := F28
    b_law_one_of := b28
    g_law_one_of := PySem.W.mg_of X G a28
    f_law_signs := f29
    d_law_signs := _
    F_law_signs := F29
    b_law_signs := b29
    g_law_signs := PySem.W.mg_of X G a29
    f_law_draw_text := f30
    d_law_draw_text := _
    F_law_draw_text := F30
    b_law_draw_text := b30
    g_law_draw_text := PySem.W.mg_of X G a30
    f_law_draw_near_field := f31
    d_law_draw_near_field := _
    F_law_draw_near_field := F31
    b_law_draw_near_field := b31
    g_law_draw_near_field := PySem.W.mg_of X G a31
    f_law_draw_setting := f32
    d_law_draw_setting := _
    F_law_draw_setting := F32
    b_law_draw_setting := b32
    g_law_draw_setting := PySem.W.mg_of X G a32
    f_law_size := f33
    d_law_size := _
    F_law_size := F33
    b_law_size := b33
    g_law_size := PySem.W.mg_of X G a33
    f_law_without_old := f34
    d_law_without_old := _
    F_law_without_old := F34
    b_law_without_old := b34
    g_law_without_old := PySem.W.mg_of X G a34
    f_law_carried := f35
    d_law_carried := _
    F_law_carried := F35
    b_law_carried := b35
    g_law_carried := PySem.W.mg_of X G a35
    f_law_draw_step := f36
    d_law_draw_step := _
    F_law_draw_step := F36
    b_law_draw_step := b36
    g_law_draw_step := PySem.W.mg_of X G a36
    f_law_draw_work := f37
    d_law_draw_work := _
    F_law_draw_work := F37
    b_law_draw_work := b37
    g_law_draw_work := PySem.W.mg_of X G a37
    f_law_wrong_setting := f38
    d_law_wrong_setting := _
    F_law_wrong_setting := F38
    b_law_wrong_setting := b38
    g_law_wrong_setting := PySem.W.mg_of X G a38
    f_law_told := f39
    d_law_told := _
    F_law_told := F39
    b_law_told := b39
    g_law_told := PySem.W.mg_of X G a39
    f_law_due := f40
    d_law_due := _
    F_law_due := F40
    b_law_due := b40
    g_law_due := PySem.W.mg_of X G a40
    f_law := fa
    d_law := _
    F_law := F41
    b_law := b41
    g_law := PySem.W.mg_of X G a41
    C_FieldError := C0
    m_FieldError := .type "type"
    B_FieldError := ⟨PySem.W.mg_of X G cC0, ⟨rd0, ga0⟩, in0⟩
    R_FieldError := ⟨rb0, rt0, rc0⟩
    C_NoSetting := C1
    P_NoSetting := ⟨PySem.W.mg_of X G cC1, xC1, kC1, eC1, tC1⟩
    S_NoSetting := ⟨eC1, tC1, uC1⟩
    C_NoValue := C2
    P_NoValue := ⟨PySem.W.mg_of X G cC2, xC2, kC2, eC2, tC2⟩
    S_NoValue := ⟨eC2, tC2, uC2⟩
    C_BadTable := C3
    E_BadTable := ⟨⟨⟨_, _, _, _, _, _, _, _, _, _, _, _, _, _, _, xL3, rv3⟩, sa3, eC3, tC3, kC3⟩, PySem.W.mg_of X G cC3, a1, t1, nb3⟩
    S_BadTable := ⟨eC3, tC3, uC3⟩
    C_Table := C4
    cl_Table := ⟨pg4, hd4, po4, sa4⟩
    g_Table := PySem.W.mg_of X G cC4
    M_Table := ⟨mk4, a16, i16, kC4⟩
    nA_Table_setting := n4_0
    nA_Table_bound := n4_1
    nA_Table_made := n4_2
    nA_Table_kept := n4_3
    m_Table_copied := ⟨a17, i17, k17⟩
    m_Table_carry_out := ⟨a18, i18, k18⟩
    m_Table_set_bound := ⟨a19, i19, k19⟩
    m_Table_inserted := ⟨a20, i20, k20⟩
    m_Table_has_room := ⟨a21, i21, k21⟩
    m_Table_leaving := ⟨a22, i22, k22⟩
    m_Table_drop := ⟨a23, i23, k23⟩
    U_NoSetting_NoSetting := xu1_1
    U_NoSetting_NoValue := xu1_2
    U_NoSetting_BadTable := xu1_3
    U_NoValue_NoSetting := xu2_1
    U_NoValue_NoValue := xu2_2
    U_NoValue_BadTable := xu2_3
    U_BadTable_NoSetting := xu3_1
    U_BadTable_NoValue := xu3_2
    U_BadTable_BadTable := xu3_3
    X_BadTable := ⟨⟨xg3, xk3, xs3, xd3, xa3, xn_, xt_, xm3⟩, xy3, xz3⟩
    X_NoSetting := ⟨⟨xg1, xk1, xs1, xd1, xa1, xn_, xt_, xm1⟩, xy1, xz1⟩
    X_NoValue := ⟨⟨xg2, xk2, xs2, xd2, xa2, xn_, xt_, xm2⟩, xy2, xz2⟩
    t_NUMBER_MOST := tk0
    g_NUMBER_MOST := PySem.W.mg_of X G v0
    t_NAME_MOST := tk1
    g_NAME_MOST := PySem.W.mg_of X G v1
    t_VALUE_MOST := tk2
    g_VALUE_MOST := PySem.W.mg_of X G v2
    t_FIXED_MOST := tk3
    g_FIXED_MOST := PySem.W.mg_of X G v3
    t_ROOM_MOST := tk4
    g_ROOM_MOST := PySem.W.mg_of X G v4
    t_WAITING_MOST := tk5
    g_WAITING_MOST := PySem.W.mg_of X G v5
    a_CHARACTERS := ad6
    g_CHARACTERS := PySem.W.mg_of X G v6
    CHARACTERS_d := ⟨⟨_, _, w6, e6⟩, q6⟩
    t_SIZE_MORE := tk7
    g_SIZE_MORE := PySem.W.mg_of X G v7
    z_all := PySem.W.mg_none_of X G z0
    z_bool := PySem.W.mg_none_of X G z1
    z_dict := PySem.W.mg_none_of X G z2
    z_enumerate := PySem.W.mg_none_of X G z3
    z_int := PySem.W.mg_none_of X G z4
    z_isinstance := PySem.W.mg_none_of X G z5
    z_len := PySem.W.mg_none_of X G z6
    z_list := PySem.W.mg_none_of X G z7
    z_max := PySem.W.mg_none_of X G z8
    z_min := PySem.W.mg_none_of X G z9
    z_ord := PySem.W.mg_none_of X G z10
    z_range := PySem.W.mg_none_of X G z11
    z_repr := PySem.W.mg_none_of X G z12
    z_sorted := PySem.W.mg_none_of X G z13
    z_str := PySem.W.mg_none_of X G z14
    z_sum := PySem.W.mg_none_of X G z15
    z_tuple := PySem.W.mg_none_of X G z16
    z_zip := PySem.W.mg_none_of X G z17
  }
  exact ⟨PySem.W.fnOf "law" "law" (defArgs s_law) (defBody s_law) (defScope s_law) .none kV41 dc41 pm41 an41 cd41 ct41, fun s v => .of_eq rfl, ok_law T⟩
theorem walk {l : PySem.W.OpenLaw} {q : Program} {loose : List Str} {XP : (Str → Option Value) → Heap → Prop} {YP : World → Heap → Prop} {d : DefRec} {K : Params → PySem.W.Frag} (hn : l.most = some 63) (hdf : d.params.defaults = [])
    (hY : ∀ (w : World) (h : Heap), YP w h → (K w.params).In h)
    (F : ∀ (w : World) (mg : Str → Option Value) (fa : Addr) (h : Heap), (K w.params).In h → h.Ns mainGlobals mg → mg d.name = some (.ref fa) →
      ∃ fd : FuncData, (∀ (s : Shared) (u : Value), BindsTo s fd ⟨[u], []⟩ [("script", u)]) ∧ TopOk l.prog w (K w.params) mg 13 fa fd ["script"] (spLaw (K w.params))) :
    PySem.W.WalkO q loose XP YP l.row.toRowW d [] (fun f vs => PySem.call f vs) :=
  walk_top (n := 63) (k := 13) (x := "script") (sp := fun w => spLaw (K w.params)) hn (by decide) hdf ⟨rfl, by decide, by decide⟩ hY F fun _ _ a ns hl _ hS => ⟨a, ns, rfl, hS, hl, fun _ => rfl⟩
end Fld
open PySem PySem.W PyProof.Rows
set_option maxRecDepth 100000 in
set_option maxHeartbeats 0 in
theorem PySem.Challenge.cw_fieldtable_k22_tables_refused_holds : PySem.Challenge.rw_fieldtable_k22_tables_refused.Holds := by
  w_on; o_law; k_head; (case hw => w_witness2)
  k_fill
  refine Fld.walk (l := PySem.Challenge.rw_fieldtable_k22_tables_refused) rfl rfl (fun w h Y => PySem.W.kIn_of Y) ?F
  case F =>
    intro w mg fa h KX G hmg
    refine' Fld.all_mk KX G hmg ?cC0 ?rd0 ?ga0 ?in0 ?rb0 ?rt0 ?rc0 ?cC1 ?kC1 ?eC1 ?tC1 ?uC1 ?xC1 ?cC2 ?kC2 ?eC2 ?tC2 ?uC2 ?xC2 ?cC3 ?kC3 ?eC3 ?tC3 ?uC3 ?xL3 ?rv3 ?sa3 ?nb3 ?cC4 ?pg4 ?hd4 ?po4 ?sa4 ?mk4 ?kC4 ?n4_0 ?n4_1 ?n4_2 ?n4_3 ?xn_ ?xt_ ?xg3 ?xk3 ?xs3 ?xd3 ?xa3 ?xm3 ?xy3 ?xz3 ?xg1 ?xk1 ?xs1 ?xd1 ?xa1 ?xm1 ?xy1 ?xz1 ?xg2 ?xk2 ?xs2 ?xd2 ?xa2 ?xm2 ?xy2 ?xz2 ?xu1_1 ?xu1_2 ?xu1_3 ?xu2_1 ?xu2_2 ?xu2_3 ?xu3_1 ?xu3_2 ?xu3_3 ?a0 ?l0 ?c0 ?k0 ?a1 ?l1 ?c1 ?k1 ?i1 ?t1 ?a2 ?l2 ?c2 ?k2 ?a3 ?l3 ?c3 ?k3 ?a4 ?l4 ?c4 ?k4 ?a5 ?l5 ?c5 ?k5 ?a6 ?l6 ?c6 ?k6 ?a7 ?l7 ?c7 ?k7 ?a8 ?l8 ?c8 ?k8 ?a9 ?l9 ?c9 ?k9 ?a10 ?l10 ?c10 ?k10 ?a11 ?l11 ?c11 ?k11 ?a12 ?l12 ?c12 ?k12 ?a13 ?l13 ?c13 ?k13 ?a14 ?l14 ?c14 ?k14 ?a15 ?l15 ?c15 ?k15 ?a16 ?l16 ?c16 ?k16 ?i16 ?t16 ?a17 ?l17 ?c17 ?k17 ?i17 ?t17 ?a18 ?l18 ?c18 ?k18 ?i18 ?t18 ?a19 ?l19 ?c19 ?k19 ?i19 ?t19 ?a20 ?l20 ?c20 ?k20 ?i20 ?t20 ?a21 ?l21 ?c21 ?k21 ?i21 ?t21 ?a22 ?l22 ?c22 ?k22 ?i22 ?t22 ?a23 ?l23 ?c23 ?k23 ?i23 ?t23 ?a24 ?l24 ?c24 ?k24 ?a25 ?l25 ?c25 ?k25 ?a26 ?l26 ?c26 ?k26 ?a27 ?l27 ?c27 ?k27 ?a28 ?l28 ?c28 ?k28 ?a29 ?l29 ?c29 ?k29 ?a30 ?l30 ?c30 ?k30 ?a31 ?l31 ?c31 ?k31 ?a32 ?l32 ?c32 ?k32 ?a33 ?l33 ?c33 ?k33 ?a34 ?l34 ?c34 ?k34 ?a35 ?l35 ?c35 ?k35 ?a36 ?l36 ?c36 ?k36 ?a37 ?l37 ?c37 ?k37 ?a38 ?l38 ?c38 ?k38 ?a39 ?l39 ?c39 ?k39 ?a40 ?l40 ?c40 ?k40 ?a41 ?l41 ?c41 ?k41 ?v0 ?v1 ?v2 ?v3 ?v4 ?v5 ?v6 ?w6 ?e6 ?q6 ?v7 ?z0 ?z1 ?z2 ?z3 ?z4 ?z5 ?z6 ?z7 ?z8 ?z9 ?z10 ?z11 ?z12 ?z13 ?z14 ?z15 ?z16 ?z17
    (case cC0 => k_is)
    (case rd0 => k_is)
    (case ga0 => k_is)
    (case in0 => k_is)
    (case rb0 => k_is)
    (case rt0 => k_is)
    (case rc0 => k_is)
    (case cC1 => k_is)
    (case kC1 => k_is)
    (case eC1 => k_is)
    (case tC1 => k_is)
    (case uC1 => k_is)
    (case xC1 => k_exc)
    (case cC2 => k_is)
    (case kC2 => k_is)
    (case eC2 => k_is)
    (case tC2 => k_is)
    (case uC2 => k_is)
    (case xC2 => k_exc)
    (case cC3 => k_is)
    (case kC3 => k_is)
    (case eC3 => k_is)
    (case tC3 => k_is)
    (case uC3 => k_is)
    (case xL3 => k_is)
    (case rv3 => first | rfl | decide +kernel)
    (case sa3 => k_is)
    (case nb3 => k_is)
    (case cC4 => k_is)
    (case pg4 => k_is)
    (case hd4 => k_is)
    (case po4 => k_is)
    (case sa4 => k_is)
    (case mk4 => k_is)
    (case kC4 => k_is)
    (case n4_0 => k_is)
    (case n4_1 => k_is)
    (case n4_2 => k_is)
    (case n4_3 => k_is)
    (case xn_ => k_is)
    (case xt_ => k_is)
    (case xg3 => k_is)
    (case xk3 => k_is)
    (case xs3 => k_is)
    (case xd3 => k_is)
    (case xa3 => k_is)
    (case xm3 => k_is)
    (case xy3 => k_is)
    (case xz3 => k_is)
    (case xg1 => k_is)
    (case xk1 => k_is)
    (case xs1 => k_is)
    (case xd1 => k_is)
    (case xa1 => k_is)
    (case xm1 => k_is)
    (case xy1 => k_is)
    (case xz1 => k_is)
    (case xg2 => k_is)
    (case xk2 => k_is)
    (case xs2 => k_is)
    (case xd2 => k_is)
    (case xa2 => k_is)
    (case xm2 => k_is)
    (case xy2 => k_is)
    (case xz2 => k_is)
    (case xu1_1 => k_is)
    (case xu1_2 => k_is)
    (case xu1_3 => k_is)
    (case xu2_1 => k_is)
    (case xu2_2 => k_is)
    (case xu2_3 => k_is)
    (case xu3_1 => k_is)
    (case xu3_2 => k_is)
    (case xu3_3 => k_is)
    (case a0 => k_is)
    (case l0 => k_is)
    (case c0 => k_is)
    (case k0 => k_is)
    (case a1 => k_is)
    (case l1 => k_is)
    (case c1 => k_is)
    (case k1 => k_is)
    (case i1 => k_is)
    (case t1 => k_is)
    (case a2 => k_is)
    (case l2 => k_is)
    (case c2 => k_is)
    (case k2 => k_is)
    (case a3 => k_is)
    (case l3 => k_is)
    (case c3 => k_is)
    (case k3 => k_is)
    (case a4 => k_is)
    (case l4 => k_is)
    (case c4 => k_is)
    (case k4 => k_is)
    (case a5 => k_is)
    (case l5 => k_is)
    (case c5 => k_is)
    (case k5 => k_is)
    (case a6 => k_is)
    (case l6 => k_is)
    (case c6 => k_is)
    (case k6 => k_is)
    (case a7 => k_is)
    (case l7 => k_is)
    (case c7 => k_is)
    (case k7 => k_is)
    (case a8 => k_is)
    (case l8 => k_is)
    (case c8 => k_is)
    (case k8 => k_is)
    (case a9 => k_is)
    (case l9 => k_is)
    (case c9 => k_is)
    (case k9 => k_is)
    (case a10 => k_is)
    (case l10 => k_is)
    (case c10 => k_is)
    (case k10 => k_is)
    (case a11 => k_is)
    (case l11 => k_is)
    (case c11 => k_is)
    (case k11 => k_is)
    (case a12 => k_is)
    (case l12 => k_is)
    (case c12 => k_is)
    (case k12 => k_is)
    (case a13 => k_is)
    (case l13 => k_is)
    (case c13 => k_is)
    (case k13 => k_is)
    (case a14 => k_is)
    (case l14 => k_is)
    (case c14 => k_is)
    (case k14 => k_is)
    (case a15 => k_is)
    (case l15 => k_is)
    (case c15 => k_is)
    (case k15 => k_is)
    (case a16 => k_is)
    (case l16 => k_is)
    (case c16 => k_is)
    (case k16 => k_is)
    (case i16 => k_is)
    (case t16 => k_is)
    (case a17 => k_is)
    (case l17 => k_is)
    (case c17 => k_is)
    (case k17 => k_is)
    (case i17 => k_is)
    (case t17 => k_is)
    (case a18 => k_is)
    (case l18 => k_is)
    (case c18 => k_is)
    (case k18 => k_is)
    (case i18 => k_is)
    (case t18 => k_is)
    (case a19 => k_is)
    (case l19 => k_is)
    (case c19 => k_is)
    (case k19 => k_is)
    (case i19 => k_is)
    (case t19 => k_is)
    (case a20 => k_is)
    (case l20 => k_is)
    (case c20 => k_is)
    (case k20 => k_is)
    (case i20 => k_is)
    (case t20 => k_is)
    (case a21 => k_is)
    (case l21 => k_is)
    (case c21 => k_is)
    (case k21 => k_is)
    (case i21 => k_is)
    (case t21 => k_is)
    (case a22 => k_is)
    (case l22 => k_is)
    (case c22 => k_is)
    (case k22 => k_is)
    (case i22 => k_is)
    (case t22 => k_is)
    (case a23 => k_is)
    (case l23 => k_is)
    (case c23 => k_is)
    (case k23 => k_is)
    (case i23 => k_is)
    (case t23 => k_is)
    (case a24 => k_is)
    (case l24 => k_is)
    (case c24 => k_is)
    (case k24 => k_is)
    (case a25 => k_is)
    (case l25 => k_is)
    (case c25 => k_is)
    (case k25 => k_is)
    (case a26 => k_is)
    (case l26 => k_is)
    (case c26 => k_is)
    (case k26 => k_is)
    (case a27 => k_is)
    (case l27 => k_is)
    (case c27 => k_is)
    (case k27 => k_is)
    (case a28 => k_is)
    (case l28 => k_is)
    (case c28 => k_is)
    (case k28 => k_is)
    (case a29 => k_is)
    (case l29 => k_is)
    (case c29 => k_is)
    (case k29 => k_is)
    (case a30 => k_is)
    (case l30 => k_is)
    (case c30 => k_is)
    (case k30 => k_is)
    (case a31 => k_is)
    (case l31 => k_is)
    (case c31 => k_is)
    (case k31 => k_is)
    (case a32 => k_is)
    (case l32 => k_is)
    (case c32 => k_is)
    (case k32 => k_is)
    (case a33 => k_is)
    (case l33 => k_is)
    (case c33 => k_is)
    (case k33 => k_is)
    (case a34 => k_is)
    (case l34 => k_is)
    (case c34 => k_is)
    (case k34 => k_is)
    (case a35 => k_is)
    (case l35 => k_is)
    (case c35 => k_is)
    (case k35 => k_is)
    (case a36 => k_is)
    (case l36 => k_is)
    (case c36 => k_is)
    (case k36 => k_is)
    (case a37 => k_is)
    (case l37 => k_is)
    (case c37 => k_is)
    (case k37 => k_is)
    (case a38 => k_is)
    (case l38 => k_is)
    (case c38 => k_is)
    (case k38 => k_is)
    (case a39 => k_is)
    (case l39 => k_is)
    (case c39 => k_is)
    (case k39 => k_is)
    (case a40 => k_is)
    (case l40 => k_is)
    (case c40 => k_is)
    (case k40 => k_is)
    (case a41 => k_is)
    (case l41 => k_is)
    (case c41 => k_is)
    (case k41 => k_is)
    (case v0 => k_is)
    (case v1 => k_is)
    (case v2 => k_is)
    (case v3 => k_is)
    (case v4 => k_is)
    (case v5 => k_is)
    (case v6 => k_is)
    (case w6 => k_is)
    (case e6 => repeat (first | exact Paired.nil | refine Paired.cons ⟨⟨_, rfl⟩, rfl, ⟨_, rfl⟩⟩ ?_))
    (case q6 => first | rfl | decide +kernel | k_is)
    (case v7 => k_is)
    (case z0 => k_is)
    (case z1 => k_is)
    (case z2 => k_is)
    (case z3 => k_is)
    (case z4 => k_is)
    (case z5 => k_is)
    (case z6 => k_is)
    (case z7 => k_is)
    (case z8 => k_is)
    (case z9 => k_is)
    (case z10 => k_is)
    (case z11 => k_is)
    (case z12 => k_is)
    (case z13 => k_is)
    (case z14 => k_is)
    (case z15 => k_is)
    (case z16 => k_is)
    (case z17 => k_is)
