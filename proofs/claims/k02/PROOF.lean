import PyProof.Rows.All
import Wide.All
import OpenK.AllK
import Wide.FinOn
import KE.GoesEnum
import HandS.ForMost
import HandS.IsInst
import HandS.Flow
import HandS.Walk
import HandS.Zip
import HandS.Style
import HandS.Defaults
import HandS.Evl
import HandS.ForExc
import HandS.ExcInit
import HandS.ClsMeth
import HandS.FStr
import HandS.Steps
import HandS.ExcIs
import HandS.WordsExc
import KE.DataEq
import KE.KEqDict
import HandS.ExcValue
import KE.KRevSl
import HandS.TupAny
import HandS.TupMul
import KE.KDictZip
import KE.KItemsList
import HandS.Iter
import HandS.Dict
import HandS.More
import HandS.ForDict
import KE.KSortedM
import HandS.Finally
import HandS.ExcField
import HandS.SetFor
import HandS.ExcBuiltin
import PySem.Challenge.RW_fieldtable_k02_errors_of_octets
set_option Elab.async false
set_option linter.all false
set_option maxRecDepth 100000
set_option maxHeartbeats 4000000
namespace Fld
open PySem PySem.Spec PyProof.Rows L2
/-! ### a written dict whose keys are ints -/
def EntI : List DictEntry → List (Int × V) → Prop := Paired fun (e : DictEntry) (p : Int × V) => (∃ t, e.key = Value.int p.1 t) ∧ e.hash = hashInt p.1 ∧ RelV p.2 e.val
structure IDict (K : PySem.W.Frag) (d : Addr) (kvs : List (Int × V)) : Prop where
  ex : ∃ es n, K.lookup d = some ⟨.type "dict", none, .dict es n, #[]⟩ ∧ EntI es.toList kvs
  low : (d == sysModules) = false
def valI (kvs : List (Int × V)) (k : Int) : Option V := (kvs.find? fun p => p.1 == k).map (·.2)
theorem findI : ∀ {es : List DictEntry} {kvs : List (Int × V)} (k : Int), EntI es kvs → RelO (valI kvs k) ((es.find? fun e => Value.isInt k e.key).map (·.val))
  | _, _, k, .nil => True.intro
  | e :: es, p :: kvs, k, .cons h t => by
    obtain ⟨⟨u, e1⟩, e2, e3⟩ := h
    have ih := findI k t
    unfold valI
    rw [List.find?_cons, List.find?_cons, e1]
    by_cases c : p.1 = k
    · subst c
      have q : Value.isInt p.1 (Value.int p.1 u) = true := by simp [Value.isInt]
      rw [q]
      simp only [beq_self_eq_true, Option.map_some]
      exact e3
    · have q : Value.isInt k (Value.int p.1 u) = false := by simp [Value.isInt, c]
      have q2 : (p.1 == k) = false := by simp [c]
      rw [q, q2]
      exact ih
section
variable {X : Cx} {d : Addr} {kvs : List (Int × V)}
theorem IDict.map (D : IDict X.K d kvs) {h : Heap} (I : X.K.In h) : ∃ es : Array DictEntry, h.MapOf (intKind X.prog X.w) d (fun k => findBy Value.isInt es k) ∧ EntI es.toList kvs := by
  obtain ⟨es, n, l, e⟩ := D.ex
  refine ⟨es, ⟨_, es, n, I _ _ l, ⟨rfl, rfl, rfl⟩, rfl, fun x hx => ?_, fun _ => rfl⟩, e⟩
  have mem : ∀ {es : List DictEntry} {kvs : List (Int × V)}, EntI es kvs → ∀ x ∈ es, ∃ k t, x.key = Value.int k t ∧ x.hash = hashInt k := by
    intro es kvs r
    induction r with
    | nil => intro x hx; cases hx
    | cons h t ih =>
      intro x hx
      rcases List.mem_cons.mp hx with rfl | hx
      · obtain ⟨⟨u, e1⟩, e2, _⟩ := h
        exact ⟨_, u, e1, e2⟩
      · exact ih x hx
  obtain ⟨k, t, e1, e2⟩ := mem e x (Array.mem_toList_iff.mpr hx)
  exact ⟨k, by rw [e1]; exact intKind_is _ _ k t, e2⟩
theorem findE {es : Array DictEntry} (e : EntI es.toList kvs) (k : Int) : RelO (valI kvs k) (findBy Value.isInt es k) := by
  obtain ⟨l⟩ := es
  have := findI k e
  unfold findBy
  rw [List.find?_toArray]
  exact this
theorem isSome_of {a : Option V} {b : Option Value} (r : RelO a b) : b.isSome = a.isSome := by
  cases a <;> cases b <;> first | rfl | exact r.elim
/-- k in d, d a written dict with int keys -/
def rInI (d : Addr) (kvs : List (Int × V)) : R2 := fun x y H Q => ∃ k : Int, x = .int k ∧ y = .ref d ∧ Q (.bl (valI kvs k).isSome) H
theorem op_in_kdI (D : IDict X.K d kvs) : OpR X (compareOp .In) (rInI d kvs) := by
  intro pins s σ H x y v u Q I rx ry h
  obtain ⟨k, rfl, rfl, q⟩ := h
  obtain ⟨t, rfl⟩ := rx
  cases ry
  obtain ⟨es, m, e⟩ := D.map I.kIn
  refine wpAny_in_of (PySem.intKind_is X.prog X.w k t) D.low m ?_
  rw [isSome_of (findE e k)]
  exact ⟨.bl _, H, I.tok _, rfl, q⟩
/-- d[k] -/
def rIxI (d : Addr) (kvs : List (Int × V)) : R2 := fun x y H Q => ∃ (k : Int) (v : V), x = .ref d ∧ y = .int k ∧ valI kvs k = some v ∧ Q v H
theorem ix_kdI (D : IDict X.K d kvs) : IxR X (rIxI d kvs) := by
  intro value slice pins s σ H x y v u Q I rx ry h hs
  obtain ⟨k, z, rfl, rfl, hv, q⟩ := h
  cases rx
  obtain ⟨t, rfl⟩ := ry
  obtain ⟨es, m, e⟩ := D.map I.kIn
  have r := findE e k
  rw [hv] at r
  obtain ⟨u0, e0, ru⟩ := RelO.some_of r
  exact tail_any m.typeIs slot_dict_getitem.lookup (wpAny_getItem_of (PySem.intKind_is X.prog X.w k t) m e0 ⟨z, H, I.tok _, ru, q⟩) hs
end
/-! ### text * int -/
def repS (x : Str) (n : Nat) : Str := ⟨(List.replicate n x.cps.toList).flatten.toArray⟩
theorem foldl_app : ∀ (k : Nat) (xs : Array Nat) (acc : Array Nat), (List.replicate k xs).foldl (· ++ ·) acc = acc ++ (List.replicate k xs.toList).flatten.toArray
  | 0, xs, acc => by simp
  | k + 1, xs, acc => by
    rw [List.replicate_succ, List.foldl_cons, foldl_app k xs, List.replicate_succ, List.flatten_cons]
    apply Array.ext'
    simp [List.append_assoc]
theorem repS_tl (x : Str) (n : Nat) : (repS x n).cps.toList = (List.replicate n x.cps.toList).flatten := rfl
theorem op_mul_str {X : Cx} : OpR X (binaryOp .Mult) (fun x y H Q => ∃ (z : Str) (k : Int), x = .str z ∧ y = .int k ∧ 1 < k ∧ k < 1000 ∧ 0 < z.length ∧ z.length ≤ 1000 ∧ Q (.str (repS z k.toNat)) H) := by
  intro pins s σ H x y v u Q I rx ry h
  obtain ⟨z, k, rfl, rfl, h1, h2, h3, h4, q⟩ := h
  obtain ⟨t, rfl⟩ := rx
  obtain ⟨t', rfl⟩ := ry
  have hlen : (z.length == 0) = false := by simp; omega
  have hk1 : (k == 1) = false := by simp; omega
  refine PySem.P.mul_str (by
      rw [decide_eq_false (by omega), decide_eq_false (by omega)]; rfl) (fun _ _ => ?_) (fun _ _ => ?_) ?_
  · have : (1000 : Int) ≤ (2 ^ 63 - 1) / k := by
      rw [Int.le_ediv_iff_mul_le (by omega)]
      omega
    omega
  · have a1 : z.length * k.toNat ≤ 1000 * 1000 := Nat.mul_le_mul h4 (by omega)
    have a2 : ¬ (z.length * k.toNat > sizeLine) := by rw [sizeLine_eq]; omega
    show (decide _) = false
    first | exact decide_eq_false a2 | simp [a2]
  · rw [if_neg (by omega), hk1, hlen]
    simp only [Bool.or_self, Bool.false_eq_true, if_false]
    have e : (⟨(List.replicate k.toNat z.cps).foldl (· ++ ·) #[]⟩ : Str) = repS z k.toNat := by
      unfold repS
      rw [foldl_app]
      simp
    rw [e]
    refine ⟨?_, ⟨.str (repS z k.toNat), H, I.tok _, ⟨_, rfl⟩, q⟩⟩
    have a1 : z.length * k.toNat ≤ 1000 * 1000 := Nat.mul_le_mul h4 (by omega)
    have e2 : (repS z k.toNat).length = k.toNat * z.length := by
      show (List.replicate k.toNat z.cps.toList).flatten.toArray.size = _
      simp
      rfl
    rw [Nat.mul_comm] at a1
    first
      | exact decide_eq_false (by rw [e2, sizeLine_eq]; omega)
      | (rw [e2]; simp [sizeLine_eq]; omega)
      | (rw [e2, sizeLine_eq]; omega)
end Fld
namespace Fld
open PySem PySem.Spec PyProof.Rows L2
/-! ### enumerate(text) -/
/-- the signs of x, each in a new pair with its place -/
def ItS (x : Str) : It :=
  ⟨fun i H => i < x.cps.size, fun i H v H' => ∃ T c, v = .ref T ∧ H T = none ∧ H' = upd H T (.tup [.int (i : Nat), .str ⟨#[c]⟩]) ∧ x.cps[i]? = some c, fun i H => x.cps.size ≤ i⟩
theorem turn_enumS {P : Program} {w : World} {K : PySem.W.Frag} {elts : List Expr} {kk : Nat} {tpos : Pos} (x : Str) (t : Tok) (e it : Addr) :
    Turn P w K (.Tuple elts kk tpos) (ItS x) [e, it] e (fun i h => (∃ old, IsEnum h e it ((i : Nat) : Int) old) ∧ h.IsStrIter it (strIterType x) x t i ∧ e ≠ it ∧ i ≤ x.cps.size) where
  mem := by simp
  obj := fun i h st b hb => by
    obtain ⟨⟨old, he⟩, hi, _⟩ := st
    have e' : b = e ∨ b = it := by simpa using hb
    rcases e' with z | z
    · rw [z]; exact ⟨_, he, fun v q => nomatch q⟩
    · rw [z]; obtain ⟨o, ho, hc, hd⟩ := hi; exact ⟨_, ho, fun v q => by rw [hd] at q; cases q⟩
  keep := fun i h h' st k => let ⟨⟨old, he⟩, hi, hne, hl⟩ := st; ⟨⟨old, k e (by simp) _ he⟩, by obtain ⟨o, ho, hc, hd⟩ := hi; exact ⟨o, k it (by simp) o ho, hc, hd⟩, hne, hl⟩
  item := by
    intro X hP hw hK hc i pins s σ H E I hf st hg
    subst hP hw hK
    obtain ⟨⟨old, he⟩, hit, hne, hl⟩ := st
    have D := Draws.text (prog := X.prog) (w := X.w) (A := X.A.in1) (I.ok.hd hc) it x t
    have hel : e < s.heap.objs.size := Heap.lt_size he
    have hil : it < s.heap.objs.size := by obtain ⟨_, q⟩ := D.live i s.heap hit; exact Heap.lt_size q
    refine wpAny_pyNext_enum_itemC D he hit hg hne (by simp [hne]) fun u h' tk hP ho hit' hT hsz hk => ?_
    obtain ⟨c, tu, hx, rfl⟩ := hP
    refine ⟨_, rfl, wpAny_letOwnedTupleGo_enum (s := { s with heap := h', toks := tk + 1 }) ho fun h'' he' sb => ?_⟩
    have hT2 : h''.get? s.heap.objs.size = some { cls := .type "tuple", data := .seq #[.int i tk, .str ⟨#[c]⟩ tu] } := (sb.2 _ (Nat.ne_of_gt hel)).trans hT
    have new : ObjOk X.prog X.w (upd H s.heap.objs.size (.tup [.int (i : Nat), .str ⟨#[c]⟩])) h'' s.heap.objs.size (.tup [.int (i : Nat), .str ⟨#[c]⟩]) :=
      ⟨by show 2 ≤ sizeLine; decide, [.int i tk, .str ⟨#[c]⟩ tu], .cons ⟨_, rfl⟩ (.cons ⟨_, rfl⟩ .nil), ⟨_, hT2, rfl, _, rfl⟩⟩
    have I1 : Inv X pins σ (upd H s.heap.objs.size (.tup [.int (i : Nat), .str ⟨#[c]⟩])) { s with heap := h'', toks := tk + 1 } :=
      I.turnedNew (ch := [e, it]) (fun b ob hb q => (sb.2 b (fun z => hb (by simp [z]))).trans (hk b ob (fun z => hb (by simp [z])) (fun z => hb (by simp [z])) q)) hf (Nat.le_refl _) new
    refine ⟨.ref s.heap.objs.size, _, I1, rfl, ⟨_, c, rfl, I.hok.fresh (Nat.le_refl _), rfl, hx⟩, ⟨⟨.str ⟨#[c]⟩ tu, ?_⟩, D.frame _ _ _ hit' (fun b hb o q => ?_), hne, hg⟩, fun b hb => ?_⟩
    · have e1 : ((i + 1 : Nat) : Int) = (i : Int) + 1 := by omega
      rw [e1]; exact he'
    · have eb : b = it := by simpa using hb
      rw [eb] at q ⊢
      exact (sb.2 it (Ne.symm hne)).trans q
    · have hb' : b < s.heap.objs.size := by
        have e' : b = e ∨ b = it := by simpa using hb
        rcases e' with z | z
        · rw [z]; exact hel
        · rw [z]; exact hil
      rw [upd_ne (Nat.ne_of_lt hb')]
      exact (hf b hb).1
  done := by
    intro X hP hw hK hc i pins s σ H E I hf st hg
    subst hP hw hK
    obtain ⟨⟨old, he⟩, hit, hne, hl⟩ := st
    have ei : i = x.cps.size := Nat.le_antisymm hl hg
    subst ei
    have D := Draws.text (prog := X.prog) (w := X.w) (A := X.A.in1) (I.ok.hd hc) it x t
    obtain ⟨f0, f1, f2, f3, f4, f5⟩ := hf it (by simp)
    exact wpAny_pyNext_enum_endD D he hit fun h' eb => ⟨rfl, I.turned (t' := s.toks) (fun b o hb q => eb b o hb q) f0 f1 f3 f4 f5⟩
  self := fun A i s Q E st h => let ⟨⟨_, he⟩, _⟩ := st; wpAny_pyIter_enum he h
def iEnumS (ta : TA) : TI := fun σ H R => ta σ H fun vs H1 => ∃ x, vs = [.str x] ∧ R (ItS x) H1
theorem pi_enumS {X : Cx} {e : Expr} {ta : TA} {p pos tpos : Pos} {elts : List Expr} {kk : Nat} (hg : Gl X "enumerate") (hm : X.mg "enumerate" = none) (ha : PA X [e] ta) (hs : starEach [e] X.env = [(false, eval e X.env)] := by rfl) :
    PI X (.Tuple elts kk tpos) (.Call (.Name "enumerate" p) [e] [] pos) (iEnumS ta) := by
  refine ⟨fun pins s σ H R I h => ?_⟩
  refine Call_ (ld_blt I hg hm boot_enumerate (PyProof.Rows.callWith_type1 (thn (ha.run pos pins s σ H _ I h) fun us s1 ⟨vs, H1, I1, r1, q1⟩ => ?_) hs rfl))
  obtain ⟨x, ex, q⟩ := q1
  subst ex
  cases r1 with
  | cons r rr =>
    cases rr
    obtain ⟨t, rfl⟩ := r
    refine call_enumerate_str fun h' he hit hsz hk => wpAny_pyIter_enum he ?_
    have I2 : Inv X pins σ H1 { s1 with heap := h' } := I1.kept (t' := s1.toks) hk
    refine ⟨s1.heap.objs.size + 1, [s1.heap.objs.size + 1, s1.heap.objs.size], _, _, H1, rfl, I2, turn_enumS x t (s1.heap.objs.size + 1) s1.heap.objs.size, ⟨⟨.none, he⟩, hit, Nat.succ_ne_self _, Nat.zero_le _⟩, fun b hb => ?_, q⟩
    have e' : b = s1.heap.objs.size + 1 ∨ b = s1.heap.objs.size := by simpa using hb
    have hle : s1.heap.objs.size ≤ b := by
      rcases e' with z | z
      · rw [z]; exact Nat.le_add_right _ _
      · rw [z]; exact Nat.le_refl _
    exact I1.fpOk hle (I1.hok.fresh hle)
/-- the walk of it -/
theorem walk_enumS {x : Str} : Walk (ItS x) x.cps.size (fun _ => True) (fun i H v H' => ∃ T c, v = .ref T ∧ H T = none ∧ H' = upd H T (.tup [.int (i : Nat), .str ⟨#[c]⟩]) ∧ x.cps[i]? = some c) :=
  ⟨fun _ _ hi _ => hi, fun _ _ => Nat.le_refl _, fun _ _ _ _ _ _ y => y⟩
end Fld
namespace Fld
open PySem PySem.Spec PyProof.Rows L2
/-! ### the characters -/
def charCodes : List Nat := [32, 45, 46, 47, 48, 49, 50, 51, 52, 53, 54, 55, 56, 57, 58, 59, 61, 97, 98, 99, 100, 101, 102, 103, 104, 105, 106, 107, 108, 109, 110, 111, 112, 113, 114, 115, 116, 117, 118, 119, 120, 121, 122]
def chars : List (Int × V) := charCodes.map fun (c : Nat) => (((c : Nat) : Int), V.str ⟨#[c]⟩)
/-! ### the heap but for one object -/
def Off (p : Addr) (H : Hp) : Hp := fun b => if b = p then none else H b
/-- all but p stands -/
def But (p : Addr) (H H' : Hp) : Prop := ∀ b o, b ≠ p → H b = some o → H' b = some o
theorem But.refl (p : Addr) (H : Hp) : But p H H := fun _ _ _ h => h
theorem But.trans {p : Addr} {H H1 H2 : Hp} (a : But p H H1) (b : But p H1 H2) : But p H H2 := fun c o n h => b c o n (a c o n h)
theorem But.of {p : Addr} {H H' : Hp} (s : Same H H') : But p H H' := fun c o _ h => s c o h
theorem But.set {p : Addr} {H : Hp} {o : HO} : But p H (upd H p o) := fun c u n h => by rw [upd_ne n]; exact h
theorem But.new {p q : Addr} {H : Hp} {o : HO} (h : H q = none) : But p H (upd H q o) := fun c u n e => by rw [upd_ne (ne_of_none e h)]; exact e
theorem _root_.L2.Same.new {q : Addr} {H : Hp} {o : HO} (h : H q = none) : Same H (upd H q o) := fun c u e => by rw [upd_ne (ne_of_none e h)]; exact e
theorem But.put {p q : Addr} {H H' : Hp} {o : HO} (b : But p H H') (h : H q = none) : But p H (upd H' q o) := fun u v n e => by rw [upd_ne (ne_of_none e h)]; exact b u v n e
/-- what is true of all values of the heap but p -/
theorem But.none {p q : Addr} {H H' : Hp} (b : But p H H') (n : q ≠ p) (h : H' q = Option.none) : H q = Option.none := by
  cases e : H q with
  | none => rfl
  | some o => rw [b q o n e] at h; cases h
/-! ### the pen: a list of cells, how many were taken, what is left of the last -/
structure Pen (H : Hp) (p c : Addr) (n : Nat) : Prop where
  ex : ∃ (at_ : Nat) (acc : Int) (ns : List Int), H p = some (.lst [.ref c, .int (at_ : Nat), .int acc]) ∧ H c = some (.lst (ns.map V.int)) ∧ c ≠ p ∧ ns.length ≤ 63 ∧ at_ ≤ n
theorem Pen.mono {H : Hp} {p c : Addr} {n m : Nat} (h : Pen H p c n) (l : n ≤ m) : Pen H p c m := by
  obtain ⟨a, acc, ns, h1, h2, h3, h4, h5⟩ := h.ex
  exact ⟨a, acc, ns, h1, h2, h3, h4, Nat.le_trans h5 l⟩
theorem Pen.keep {H H' : Hp} {p c : Addr} {n : Nat} (h : Pen H p c n) (k : Same H H') : Pen H' p c n := by
  obtain ⟨a, acc, ns, h1, h2, h3, h4, h5⟩ := h.ex
  exact ⟨a, acc, ns, k _ _ h1, k _ _ h2, h3, h4, h5⟩
theorem Pen.some {H : Hp} {p c : Addr} {n : Nat} (h : Pen H p c n) : (∃ xs, H p = some (.lst xs)) ∧ ∃ xs, H c = some (.lst xs) := by
  obtain ⟨a, acc, ns, h1, h2, h3, h4, h5⟩ := h.ex
  exact ⟨⟨_, h1⟩, ⟨_, h2⟩⟩
theorem Pen.ne {H : Hp} {p c q : Addr} {n : Nat} (h : Pen H p c n) (hq : H q = none) : p ≠ q := by
  obtain ⟨⟨xs, e⟩, _⟩ := h.some
  exact ne_of_none e hq
theorem Pen.nec {H : Hp} {p c q : Addr} {n : Nat} (h : Pen H p c n) (hq : H q = none) : c ≠ q := by
  obtain ⟨_, ⟨xs, e⟩⟩ := h.some
  exact ne_of_none e hq
theorem Pen.upd {H : Hp} {p c q : Addr} {n : Nat} {o : HO} (h : Pen H p c n) (h1 : p ≠ q) (h2 : c ≠ q) : Pen (upd H q o) p c n := by
  obtain ⟨a, acc, ns, e1, e2, e3, e4, e5⟩ := h.ex
  exact ⟨a, acc, ns, by rw [upd_ne h1]; exact e1, by rw [upd_ne h2]; exact e2, e3, e4, e5⟩
/-- a draw: the pen may turn, all else stands -/
structure Drew (p c : Addr) (H H' : Hp) (n : Nat) : Prop where
  pen : Pen H' p c n
  but : But p H H'
theorem Drew.trans {p c : Addr} {H H1 H2 : Hp} {n m : Nat} (a : Drew p c H H1 n) (b : Drew p c H1 H2 m) : Drew p c H H2 m := ⟨b.pen, a.but.trans b.but⟩
theorem Drew.keep {p c : Addr} {H H1 H2 : Hp} {n : Nat} (a : Drew p c H H1 n) (s : Same H1 H2) : Drew p c H H2 n := ⟨a.pen.keep s, a.but.trans (But.of s)⟩
theorem Drew.mono {p c : Addr} {H H1 : Hp} {n m : Nat} (a : Drew p c H H1 n) (l : n ≤ m) : Drew p c H H1 m := ⟨a.pen.mono l, a.but⟩
theorem Drew.pre {p c : Addr} {H H1 H2 : Hp} {n : Nat} (s : Same H H1) (a : Drew p c H1 H2 n) : Drew p c H H2 n := ⟨a.pen, (But.of s).trans a.but⟩
/-- law's: a list of at most 63 ints is handed in, True comes out -/
def spLaw (K : PySem.W.Frag) : Sp := fun vs H Q _ => ∃ (a : Addr) (ns : List Int), vs = [.ref a] ∧ SqL K H a (ns.map V.int) ∧ ns.length ≤ 63 ∧ ∀ H', Q (.bl true) H'
end Fld
namespace Fld
open PySem PySem.Spec PyProof.Rows L2
/-! ### what kind of value -/
inductive Kind (K : PySem.W.Frag) (H : Hp) : V → String → Prop where
  | non : Kind K H .non "NoneType"
  | bl (b : Bool) : Kind K H (.bl b) "bool"
  | int (i : Int) : Kind K H (.int i) "int"
  | str (x : Str) : Kind K H (.str x) "str"
  | flt (x : UInt64) : Kind K H (.flt x) "float"
  | lst {a : Addr} {xs : List V} (h : SqL K H a xs) : Kind K H (.ref a) "list"
  | tup {a : Addr} {xs : List V} (h : SqT K H a xs) : Kind K H (.ref a) "tuple"
  | dK {a : Addr} {kvs : List (Key × V)} (h : H a = some (.dK kvs)) : Kind K H (.ref a) "dict"
theorem tyL {K : PySem.W.Frag} {H : Hp} {a : Addr} {xs : List V} (h : SqL K H a xs) : TyX K H (.ref a) (.type "list") := by
  rcases h with (h | ⟨o, h⟩) | ⟨o, its, n, h1, h2, _⟩
  · exact .base (.lst h)
  · exact .base (.frz h)
  · exact .kList h1 h2
theorem tyT {K : PySem.W.Frag} {H : Hp} {a : Addr} {xs : List V} (h : SqT K H a xs) : TyX K H (.ref a) (.type "tuple") := by
  rcases h with (h | ⟨o, h⟩) | ⟨o, its, n, h1, h2, _⟩
  · exact .base (.tup h)
  · exact .fTuple h
  · exact .kTuple h1 h2
theorem Kind.ty {K : PySem.W.Frag} {H : Hp} {v : V} {t : String} (k : Kind K H v t) : TyX K H v (.type t) := by
  cases k with
  | non => exact .base .non
  | bl b => exact .base (.bl b)
  | int i => exact .base (.int i)
  | str x => exact .base (.str x)
  | flt x => exact .base (.flt x)
  | lst h => exact tyL h
  | tup h => exact tyT h
  | dK h => exact .base (.dK h)
def subT (a b : String) : Bool := a == b || (a == "bool" && b == "int")
def clsNames : List String := ["int", "bool", "str", "list", "tuple", "dict"]
theorem kitAll : (["NoneType", "bool", "int", "str", "float", "list", "tuple", "dict"].all fun a => clsNames.all fun b => kitB a b == some (subT a b)) = true := by decide +kernel
theorem Kind.mem {K : PySem.W.Frag} {H : Hp} {v : V} {t : String} (k : Kind K H v t) : t ∈ ["NoneType", "bool", "int", "str", "float", "list", "tuple", "dict"] := by
  cases k <;> decide
theorem Kind.kit {K : PySem.W.Frag} {H : Hp} {v : V} {t b : String} (k : Kind K H v t) (hb : clsNames.contains b = true := by decide) : PySem.W.kitOne K (.type t) (.type b) = some (subT t b) := by
  have h := List.all_eq_true.mp kitAll t k.mem
  have h2 := List.all_eq_true.mp h b (List.contains_iff_mem.mp hb)
  exact kit_ty (eq_of_beq h2)
theorem Kind.kit2 {K : PySem.W.Frag} {H : Hp} {v : V} {t b c : String} (k : Kind K H v t) (hb : clsNames.contains b = true := by decide) (hc : clsNames.contains c = true := by decide) :
    PySem.W.kitAny K (.type t) [.type b, .type c] = some (subT t b || subT t c) := by
  refine kitAny_cons (k.kit hb) (fun e => ?_) fun e => ?_
  · rw [e]
    refine kitAny_cons (k.kit hc) (fun e2 => ?_) fun e2 => ?_
    · rw [e2]; exact kitAny_nil
    · rw [e2]; rfl
  · rw [e]; rfl
theorem Kind.keep {K : PySem.W.Frag} {H H' : Hp} {v : V} {t : String} (k : Kind K H v t) (s : Same H H') : Kind K H' v t := by
  cases k with
  | non => exact .non
  | bl b => exact .bl b
  | int i => exact .int i
  | str x => exact .str x
  | flt x => exact .flt x
  | lst h => exact .lst (s.seq h)
  | @tup a xs h =>
    refine .tup (xs := xs) ?_
    rcases h with (h | ⟨o, h⟩) | h
    · exact .inl (.inl (s _ _ h))
    · exact .inl (.inr ⟨o, s _ _ h⟩)
    · exact .inr h
  | dK h => exact .dK (s _ _ h)
theorem ifb {c : Bool} {A B : Prop} (h1 : c = true → A) (h2 : c = false → B) : if c = true then A else B := by
  cases c
  · rw [if_neg (by decide)]; exact h2 rfl
  · rw [if_pos rfl]; exact h1 rfl
theorem Q_bl {Q : VK} {a b : Bool} {H : Hp} (h : Q (.bl a) H) (e : a = b) : Q (.bl b) H := e ▸ h
theorem Q_int {Q : VK} {a b : Int} {H : Hp} (h : Q (.int a) H) (e : a = b) : Q (.int b) H := e ▸ h
/-! ### is_between -/
def btw : V → Int → Int → Bool
  | .int i, a, b => decide (a ≤ i) && decide (i ≤ b)
  | _, _, _ => false
def sp_is_between (K : PySem.W.Frag) : Sp := fun vs H Q _ => ∃ (v : V) (t : String) (a b : Int), vs = [v, .int a, .int b] ∧ Kind K H v t ∧ Q (.bl (btw v a b)) H
end Fld
namespace Fld
open PySem PySem.Spec PyProof.Rows L2
/-! ### comprehensions -/
section
variable {J : It} {n : Nat} {G : Hp → Prop} {Y : Nat → Hp → V → Hp → Prop} {g : TG} {tt : TT} {te : TE} {vs : List Nat} {σ : L2.St} {H1 : Hp} {D : Addr} {Qd : Hp → Prop}
theorem yesI {σ : L2.St} {H : Hp} {A B : Hp → Prop} (h : A H) : tYes σ H (fun b H3 => if b = true then A H3 else B H3) := by
  show (if true = true then A H else B H)
  rw [if_pos rfl]; exact h
/-- by an invariant of the turn, the items so far, the heap -/
theorem lc_gen (w : Walk J n G Y) (I : Nat → List V → Hp → Prop) (hz : n ≤ 10000000) (h0 : I 0 [] (upd H1 D (.lst []))) (hG : ∀ i ys H, I i ys H → G H)
    (hs : ∀ i ys x H' H'' (Q' : VK) (Z : Hp → Prop), i < n → ys.length = i → H' D = some (.lst ys) → I i ys H' → Y i H' x H'' → (∀ y H4, H4 D = some (.lst ys) → I (i + 1) (ys ++ [y]) (upd H4 D (.lst (ys ++ [y]))) → Q' y H4) →
      g x (wipe σ vs) H'' fun σ2 H2 => wipe σ2 vs = wipe σ vs ∧ tYes σ2 H2 fun b H3 => if b = true then te σ2 H3 Q' else Z H3)
    (hd : ∀ ys H', ys.length = n → H' D = some (.lst ys) → I n ys H' → Qd H') :
    ∃ W : Nat → Nat → Hp → Prop, (∃ m, W 0 m (upd H1 D (.lst []))) ∧ ∀ i m H, W i m H →
      (J.stop i H ∧ Qd H) ∨ (J.go i H ∧ ∃ Nx : Hp → Prop, (∀ H', Nx H' → ∃ m', m' < m ∧ W (i + 1) m' H') ∧ ∀ x H', J.yld i H x H' → g x (wipe σ vs) H' fun σ2 H2 => wipe σ2 vs = wipe σ vs ∧ tYes σ2 H2 fun b H3 =>
        if b = true then te σ2 H3 fun y H4 => ∃ acc, H4 D = some (.lst acc) ∧ acc.length < sizeLine ∧ Nx (upd H4 D (.lst (acc ++ [y]))) else Nx H3) := by
  refine lc_it w (fun i H => ∃ ys : List V, ys.length = i ∧ H D = some (.lst ys) ∧ I i ys H) ⟨[], rfl, upd_same, h0⟩ (fun i H _ ⟨ys, _, _, h⟩ => hG i ys H h) ?_ ?_
  · rintro i x H H' hi ⟨ys, hl, hD, h⟩ y
    refine hs i ys x H H' _ _ hi hl hD h y fun z H4 e4 h4 => ?_
    refine ⟨ys, e4, ?_, ys ++ [z], by simp [hl], upd_same, h4⟩
    rw [sizeLine_eq]
    omega
  · rintro H ⟨ys, hl, hD, h⟩
    exact hd ys H hl hD h
/-- each item its value, all that stood stands -/
theorem lc_map (w : Walk J n G Y) (f : Nat → V) (hz : n ≤ 10000000) (hD : H1 D = none) (hG : ∀ H, Same H1 H → G H)
    (hs : ∀ i x H' H'' (Q' : VK) (Z : Hp → Prop), i < n → Same H1 H' → Y i H' x H'' → (∀ H4, Same H' H4 → Q' (f i) H4) →
      g x (wipe σ vs) H'' fun σ2 H2 => wipe σ2 vs = wipe σ vs ∧ tYes σ2 H2 fun b H3 => if b = true then te σ2 H3 Q' else Z H3)
    (hd : ∀ H', Same H1 H' → H' D = some (.lst ((List.range n).map f)) → Qd H') :
    ∃ W : Nat → Nat → Hp → Prop, (∃ m, W 0 m (upd H1 D (.lst []))) ∧ ∀ i m H, W i m H →
      (J.stop i H ∧ Qd H) ∨ (J.go i H ∧ ∃ Nx : Hp → Prop, (∀ H', Nx H' → ∃ m', m' < m ∧ W (i + 1) m' H') ∧ ∀ x H', J.yld i H x H' → g x (wipe σ vs) H' fun σ2 H2 => wipe σ2 vs = wipe σ vs ∧ tYes σ2 H2 fun b H3 =>
        if b = true then te σ2 H3 fun y H4 => ∃ acc, H4 D = some (.lst acc) ∧ acc.length < sizeLine ∧ Nx (upd H4 D (.lst (acc ++ [y]))) else Nx H3) := by
  have up : ∀ H o, Same H1 H → Same H1 (upd H D o) := fun H o s b u e => by rw [upd_ne (ne_of_none e hD)]; exact s b u e
  refine lc_gen w (fun i ys H => Same H1 H ∧ ys = (List.range i).map f) hz ⟨up _ _ (Same.refl _), rfl⟩ (fun i ys H h => hG H h.1) ?_ ?_
  · rintro i ys x H H' Q' Z hi hl hDl ⟨s, rfl⟩ y q
    refine hs i x H H' Q' Z hi s y fun H4 s4 => q (f i) H4 (s4 D _ hDl) ⟨up _ _ (s.trans s4), ?_⟩
    rw [List.range_succ, List.map_append]
    rfl
  · rintro ys H hl hDl ⟨s, rfl⟩
    exact hd H s hDl
end
/-- the items of a list by their places -/
theorem range_map {α β : Type} (l : List α) (f : α → β) (d : α) : (List.range l.length).map (fun i => f (l.getD i d)) = l.map f := by
  apply List.ext_getElem?
  intro i
  by_cases h : i < l.length
  · simp [h]
  · have h2 : l.length ≤ i := Nat.not_lt.mp h
    simp [h2]
theorem getD_of {α : Type} {l : List α} {i : Nat} {c : α} (d : α) (h : l[i]? = some c) : l.getD i d = c := by
  rw [List.getD_eq_getElem?_getD, h]; rfl
theorem cps_at {x : Str} {i c : Nat} (h : x.cps[i]? = some c) : x.cps.toList[i]? = some c := by
  rw [Array.getElem?_toList]; exact h
/-! ### texts and numbers -/
def isChar (c : Nat) : Bool := charCodes.contains c
theorem valI_chars (c : Nat) : (valI chars (c : Int)) = if isChar c then some (.str ⟨#[c]⟩) else none := by
  unfold valI chars isChar
  have h : ∀ l : List Nat, ((l.map fun (c : Nat) => (((c : Nat) : Int), V.str ⟨#[c]⟩)).find? fun p => p.1 == (c : Int)).map (·.2) = if l.contains c then some (V.str ⟨#[c]⟩) else none := by
    intro l
    induction l with
    | nil => rfl
    | cons a r ih =>
      rw [List.map_cons, List.find?_cons, List.contains_cons]
      by_cases e : a = c
      · subst e; simp
      · have e1 : (((a : Nat) : Int) == (c : Int)) = false := by
          rw [beq_eq_false_iff_ne]; intro q; exact e (by omega)
        have e2 : (c == a) = false := by rw [beq_eq_false_iff_ne]; exact fun q => e q.symm
        simp only [e1, e2, Bool.false_or]
        exact ih
  exact h charCodes
def txt : V → Int → Int → Bool
  | .str x, a, b => decide (a ≤ (x.length : Int)) && decide ((x.length : Int) ≤ b) && x.cps.toList.all isChar
  | _, _, _ => false
def sp_is_text (K : PySem.W.Frag) : Sp := fun vs H Q _ => ∃ (v : V) (t : String) (a b : Int), vs = [v, .int a, .int b] ∧ Kind K H v t ∧ (∀ x, v = .str x → x.length ≤ 100000) ∧ ∀ H', Same H H' → Q (.bl (txt v a b)) H'
def sp_is_value (K : PySem.W.Frag) : Sp := fun vs H Q _ => ∃ (v : V) (t : String), vs = [v] ∧ Kind K H v t ∧ (∀ x, v = .str x → x.length ≤ 100000) ∧ ∀ H', Same H H' → Q (.bl (txt v 0 40)) H'
def sp_is_number (K : PySem.W.Frag) : Sp := fun vs H Q _ => ∃ (v : V) (t : String), vs = [v] ∧ Kind K H v t ∧ Q (.bl (btw v 0 9999)) H
def sp_prefix_bits : Sp := fun vs H Q _ => ∃ (b : Nat), vs = [.int (b : Nat)] ∧ b ≤ 64 ∧ Q (.int (2 ^ b - 1)) H
theorem len100 {n : Nat} (h : n ≤ 100000) : n ≤ sizeLine := by rw [sizeLine_eq]; omega
theorem str_len (x : Str) : x.length = x.cps.toList.length := rfl
end Fld
namespace Fld
open PySem PySem.Spec PyProof.Rows L2
theorem ifF {c : Bool} {A B : Prop} (h : c = false) (b : B) : if c = true then A else B := by
  rw [h, if_neg (by decide)]; exact b
theorem ifT {c : Bool} {A B : Prop} (h : c = true) (a : A) : if c = true then A else B := by
  rw [h, if_pos rfl]; exact a
theorem _root_.L2.Same.at {H H' : Hp} {p : Addr} {o : HO} (hp : H p = none) : Same H (upd H p o) := Same.new hp
theorem _root_.L2.Same.put {H H' : Hp} {p : Addr} {o : HO} (s : Same H H') (hp : H p = none) : Same H (upd H' p o) := fun b u e => by rw [upd_ne (ne_of_none e hp)]; exact s b u e
theorem _root_.L2.Same.tup {K : PySem.W.Frag} {H H' : Hp} {a : Addr} {xs : List V} (s : Same H H') (h : SqT K H a xs) : SqT K H' a xs := by
  rcases h with (h | ⟨o, h⟩) | h
  · exact .inl (.inl (s _ _ h))
  · exact .inl (.inr ⟨o, s _ _ h⟩)
  · exact .inr h
theorem btw_t {n a b : Int} (h1 : a ≤ n) (h2 : n ≤ b) : btw (.int n) a b = true := by
  show (decide (a ≤ n) && decide (n ≤ b)) = true
  rw [decide_eq_true h1, decide_eq_true h2]; rfl
/-! ### the octets of a number -/
def restOct (r : Nat) : List Int := if r < 128 then [(r : Int)] else (128 + (r : Int) % 128) :: restOct (r / 128)
termination_by r
theorem restOct_lt {r : Nat} (h : r < 128) : restOct r = [(r : Int)] := by rw [restOct, if_pos h]
theorem restOct_ge {r : Nat} (h : ¬ r < 128) : restOct r = (128 + (r : Int) % 128) :: restOct (r / 128) := by rw [restOct, if_neg h]
theorem restOct_len (r : Nat) : (restOct r).length ≤ r + 1 := by
  induction r using Nat.strongRecOn with
  | _ r ih =>
    by_cases h : r < 128
    · rw [restOct_lt h]; simp
    · rw [restOct_ge h, List.length_cons]
      have := ih (r / 128) (by omega)
      omega
def numOct (n b m : Nat) : List Int := if n < 2 ^ b - 1 then [((m + n : Nat) : Int)] else ((m + (2 ^ b - 1) : Nat) : Int) :: restOct (n - (2 ^ b - 1))
theorem numOct_len (n b m : Nat) : (numOct n b m).length ≤ n + 2 := by
  unfold numOct
  split
  · simp
  · have := restOct_len (n - (2 ^ b - 1))
    rw [List.length_cons]
    omega
theorem pow_pos2 (b : Nat) : 0 < 2 ^ b := Nat.pow_pos (by decide)
theorem bits_cast (b : Nat) : ((2 : Int) ^ b - 1) = ((2 ^ b - 1 : Nat) : Int) := by
  have h := pow_pos2 b
  have e : ((2 : Int) ^ b) = ((2 ^ b : Nat) : Int) := by norm_cast
  rw [e]
  omega
theorem pow_le8 {b : Nat} (h : b ≤ 8) : 2 ^ b ≤ 256 := Nat.le_trans (Nat.pow_le_pow_right (by decide) h) (by decide)
/-- a mark that leaves the prefix alone -/
def MarkOk (b m : Nat) : Prop := 1 ≤ b ∧ b ≤ 8 ∧ m ≤ 255 ∧ Builtin.bitAnd (m : Int) (((2 ^ b - 1 : Nat)) : Int) = 0
theorem and127 {r : Int} (h : 0 ≤ r) : Builtin.bitAnd r 127 = r % 128 := Bits.bitAnd_mask 7 h
/-- a new list of ints is handed back -/
def RetInts (ns : List Int) (H : Hp) (Q : VK) : Prop := ∀ p H', H p = none → Same H H' → H' p = some (.lst (ns.map V.int)) → Q (.ref p) H'
def sp_check_prefix : Sp := fun vs H Q _ => ∃ b m : Nat, vs = [.int (b : Nat), .int (m : Nat)] ∧ MarkOk b m ∧ Q .non H
def sp_number_octets : Sp := fun vs H Q _ => ∃ n b m : Nat, vs = [.int (n : Nat), .int (b : Nat), .int (m : Nat)] ∧ n ≤ 9999 ∧ MarkOk b m ∧ RetInts (numOct n b m) H Q
def sp_string_octets : Sp := fun vs H Q _ => ∃ (x : Str) (b m : Nat), vs = [.str x, .int (b : Nat), .int (m : Nat)] ∧ txt (.str x) 0 40 = true ∧ MarkOk b m ∧ RetInts (numOct x.length b m ++ x.cps.toList.map fun (c : Nat) => (c : Int)) H Q
def sp_law_number_octets : Sp := fun vs H Q _ => ∃ n b m : Nat, vs = [.int (n : Nat), .int (b : Nat), .int (m : Nat)] ∧ n ≤ 9999 ∧ b ≤ 8 ∧ RetInts (numOct n b m) H Q
def codeOf (c : Nat) : Int := if isChar c then (c : Int) else 0
def sp_law_code : Sp := fun vs H Q _ => ∃ c : Nat, vs = [.str ⟨#[c]⟩] ∧ ∀ H', Same H H' → Q (.int (codeOf c)) H'
def sp_law_text_octets : Sp := fun vs H Q _ => ∃ (x : Str) (b m : Nat), vs = [.str x, .int (b : Nat), .int (m : Nat)] ∧ x.length ≤ 9999 ∧ b ≤ 8 ∧ RetInts (numOct x.length b m ++ x.cps.toList.map codeOf) H Q
theorem txt_len {x : Str} (h : txt (.str x) 0 40 = true) : x.length ≤ 40 := by
  have h' : (decide ((0 : Int) ≤ (x.length : Int)) && decide ((x.length : Int) ≤ 40) && x.cps.toList.all isChar) = true := h
  simp only [Bool.and_eq_true, decide_eq_true_eq] at h'
  omega
theorem txt_all {x : Str} {a b : Int} (h : txt (.str x) a b = true) : x.cps.toList.all isChar = true := by
  have h' : (decide (a ≤ (x.length : Int)) && decide ((x.length : Int) ≤ b) && x.cps.toList.all isChar) = true := h
  rw [Bool.and_eq_true] at h'
  exact h'.2
def codeRows : List (List Nat) := [(" " : Str).cps.toList, ("-./0123456789:;" : Str).cps.toList, ("=" : Str).cps.toList, ("abcdefghijklmnopqrstuvwxyz" : Str).cps.toList]
theorem codeRows_all : codeRows.flatten = charCodes := by decide +kernel
theorem code_yes {c : Nat} (i : Nat) {r : List Nat} (h : codeRows[i]? = some r) (hm : c ∈ r) : isChar c = true := by
  unfold isChar
  rw [← codeRows_all]
  exact List.contains_iff_mem.mpr (List.mem_flatten.mpr ⟨r, List.mem_of_getElem? h, hm⟩)
theorem code_no {c : Nat} (i : Nat) {r : List Nat} (h : codeRows[i]? = some r) (hc : c ∉ (codeRows.take i).flatten) (hm : c ∉ r) : c ∉ (codeRows.take (i + 1)).flatten := by
  rw [List.take_add_one, h, List.flatten_append]
  intro z
  rcases List.mem_append.mp z with z | z
  · exact hc z
  · exact hm (by simpa using z)
theorem code_none {c : Nat} (hc : c ∉ (codeRows.take 4).flatten) : isChar c = false := by
  unfold isChar
  rw [← codeRows_all]
  have e : codeRows.take 4 = codeRows := rfl
  rw [e] at hc
  cases h : codeRows.flatten.contains c
  · rfl
  · exact absurd (List.contains_iff_mem.mp h) hc
theorem row_ok {x : Str} {first : Nat} (h : ((List.range x.cps.size).all fun i => x.cps.toList.getD i 0 == first + i) = true) : ∀ i r, x.cps[i]? = some r → r = first + i := by
  intro i r hr
  have hi : i < x.cps.size := (Array.getElem?_eq_some_iff.mp hr).1
  have e := eq_of_beq (List.all_eq_true.mp h i (List.mem_range.mpr hi))
  rw [getD_of 0 (cps_at hr)] at e
  exact e
theorem codes_chars {x : Str} (h : x.cps.toList.all isChar = true) : x.cps.toList.map codeOf = x.cps.toList.map fun (c : Nat) => (c : Int) := by
  apply List.map_congr_left
  intro c hc
  have := List.all_eq_true.mp h c hc
  unfold codeOf
  rw [if_pos this]
end Fld
namespace Fld
open PySem PySem.Spec PyProof.Rows L2
theorem at_ofN {α : Type} {xs : List α} {z : Int} {j : Nat} {v : α} (e : z = (j : Int)) (h : xs[j]? = some v) : atI xs z = some v := by
  rw [e]; exact atI_nat h
/-! ### slices by places -/
theorem cut_to (xs : List V) (k : Nat) : cutV xs none (some (k : Int)) = xs.take k := by
  unfold cutV
  rw [HT.sIx_none, HT.sIx_nat, List.drop_zero, Nat.sub_zero]
  by_cases h : k ≤ xs.length
  · rw [Nat.min_eq_left h]
  · rw [Nat.min_eq_right (by omega), List.take_of_length_le (Nat.le_refl _), List.take_of_length_le (by omega)]
theorem cut_mid (xs : List V) (a b : Nat) : cutV xs (some (a : Int)) (some (b : Int)) = (xs.drop a).take (b - a) := by
  unfold cutV
  rw [HT.sIx_nat, HT.sIx_nat]
  by_cases h : a ≤ xs.length
  · have e1 : min a xs.length = a := by omega
    rw [e1]
    by_cases h2 : b ≤ xs.length
    · have e2 : min b xs.length = b := by omega
      rw [e2]
    · rw [List.take_of_length_le (by rw [List.length_drop]; omega), List.take_of_length_le (by rw [List.length_drop]; omega)]
  · have e1 : min a xs.length = xs.length := by omega
    rw [e1, List.drop_eq_nil_of_le (Nat.le_refl _), List.drop_eq_nil_of_le (by omega), List.take_nil, List.take_nil]
theorem cut_from (xs : List V) (a : Nat) : cutV xs (some (a : Int)) none = xs.drop a := by
  unfold cutV
  rw [HT.sIx_nat, HT.sIx_none]
  by_cases h : a ≤ xs.length
  · rw [Nat.min_eq_left h, List.take_of_length_le (by rw [List.length_drop]; omega)]
  · rw [Nat.min_eq_right (by omega), List.drop_eq_nil_of_le (Nat.le_refl _), List.drop_eq_nil_of_le (by omega), List.take_nil]
/-! ### the spread -/
def primes : List Int := [2147483629, 2147483587, 2147483579, 2147483563, 2147483549, 2147483543, 2147483497, 2147483489, 2147483477, 2147483423, 2147483399, 2147483353, 2147483323]
theorem primes_at {k : Int} (h0 : 0 ≤ k) (h : k < 13) : ∃ r : Int, atI (primes.map V.int) k = some (.int r) ∧ 0 < r ∧ r < 2147483648 := by
  have hk : k.toNat < 13 := by omega
  have ek : k = ((k.toNat : Nat) : Int) := by omega
  have hall : ((List.range 13).all fun i => (primes[i]?).any fun r => decide (0 < r) && decide (r < 2147483648)) = true := by decide
  have h1 := List.all_eq_true.mp hall k.toNat (List.mem_range.mpr hk)
  cases e : primes[k.toNat]? with
  | none => rw [e] at h1; cases h1
  | some r =>
    rw [e] at h1
    have h2 : (decide (0 < r) && decide (r < 2147483648)) = true := h1
    rw [Bool.and_eq_true, decide_eq_true_eq, decide_eq_true_eq] at h2
    refine ⟨r, ?_, h2.1, h2.2⟩
    rw [ek]
    exact atI_nat (by rw [List.getElem?_map, e]; rfl)
theorem pow_small {i : Int} (h0 : 0 ≤ i) (h : i < 10 ^ 18) : i.natAbs < 2 ^ 64 := by
  have : (10 : Int) ^ 18 < 2 ^ 63 := by decide
  have e : (2 : Nat) ^ 64 = 18446744073709551616 := by decide
  have e2 : (10 : Int) ^ 18 = 1000000000000000000 := by decide
  omega
theorem mul_bd {a b A B : Int} (h1 : 0 ≤ a) (h2 : a ≤ A) (h3 : 0 ≤ b) (h4 : b ≤ B) : 0 ≤ a * b ∧ a * b ≤ A * B :=
  ⟨Int.mul_nonneg h1 h3, Int.mul_le_mul h2 h4 h3 (Int.le_trans h1 h2)⟩
theorem mul64 {a b : Int} (h1 : 0 ≤ a) (h2 : a < 10 ^ 18) : CMul a b := by
  have e : (2 : Int) ^ 64 = 18446744073709551616 := by decide
  have e2 : (10 : Int) ^ 18 = 1000000000000000000 := by decide
  refine .inl ⟨?_, ?_⟩ <;> omega
def sp_law_spread : Sp := fun vs H Q _ => ∃ (cell : Int) (a : Nat), vs = [.int cell, .int (a : Nat)] ∧ a ≤ 1000000 ∧ ∀ (r : Int) H', Same H H' → Q (.int r) H'
def sp_law_open (K : PySem.W.Frag) : Sp := fun vs H Q _ => ∃ (a : Addr) (ns : List Int), vs = [.ref a] ∧ SqL K H a (ns.map V.int) ∧ ns.length ≤ 63 ∧ ∀ p c H', H p = none → Same H H' → Pen H' p c 0 → Q (.ref p) H'
def sp_law_take : Sp := fun vs H Q _ => ∃ (p c : Addr) (n : Nat) (k : Int), vs = [.ref p, .int k] ∧ Pen H p c n ∧ 0 < k ∧ k < 1073741824 ∧ n ≤ 900000 ∧ ∀ (r : Int) H', 0 ≤ r → r < k → Drew p c H H' (n + 1) → Q (.int r) H'
/-- one of a list's items, whatever they are -/
def sp_law_one_of (K : PySem.W.Frag) : Sp := fun vs H Q _ => ∃ (p c a : Addr) (n : Nat) (xs : List V), vs = [.ref p, .ref a] ∧ Pen H p c n ∧ SqL K H a xs ∧ a ≠ p ∧ xs ≠ [] ∧ xs.length ≤ 1000 ∧ n ≤ 900000 ∧ ∀ (x : V) H', x ∈ xs → Drew p c H H' (n + 1) → Q x H'
def signs : Str := " -./0123456789:;=abcdefghijklmnopqrstuvwxyz"
def sp_law_signs : Sp := fun vs H Q _ => vs = [] ∧ Q (.str signs) H
theorem signs_cps : signs.cps.toList = charCodes := by decide +kernel
theorem But.seq {K : PySem.W.Frag} {p : Addr} {H H' : Hp} {a : Addr} {xs : List V} (b : But p H H') (n : a ≠ p) (h : SqL K H a xs) : SqL K H' a xs := by
  rcases h with (h | ⟨o, h⟩) | h
  · exact .inl (.inl (b _ _ n h))
  · exact .inl (.inr ⟨o, b _ _ n h⟩)
  · exact .inr h
end Fld
namespace Fld
open PySem PySem.Spec PyProof.Rows L2
def sp_law_draw_text : Sp := fun vs H Q _ => ∃ (p c : Addr) (n a b : Nat), vs = [.ref p, .int (a : Nat), .int (b : Nat)] ∧ Pen H p c n ∧ n ≤ 800000 ∧ a ≤ 1 ∧ a ≤ b ∧ b ≤ 40 ∧ ∀ (x : Str) H', txt (.str x) a b = true → Drew p c H H' (n + 50) → Q (.str x) H'
def sp_law_draw_number : Sp := fun vs H Q _ => ∃ (p c : Addr) (n : Nat), vs = [.ref p] ∧ Pen H p c n ∧ n ≤ 800000 ∧ ∀ (z : Nat) H', z ≤ 9999 → Drew p c H H' (n + 10) → Q (.int (z : Nat)) H'
theorem txt_of {x : Str} {a b : Int} (h1 : a ≤ (x.length : Int)) (h2 : (x.length : Int) ≤ b) (h3 : x.cps.toList.all isChar = true) : txt (.str x) a b = true := by
  show (decide (a ≤ (x.length : Int)) && decide ((x.length : Int) ≤ b) && x.cps.toList.all isChar) = true
  rw [decide_eq_true h1, decide_eq_true h2, h3]; rfl
/-- a text of one sign after another -/
theorem join_signs (cs : List Nat) : Txt.join ⟨#[]⟩ (cs.map fun c => (⟨#[c]⟩ : Str)) = ⟨cs.toArray⟩ := by
  rw [TL.join_eq]
  apply TL.ext_tl
  rw [TL.tl_join]
  have h : ∀ l : List Nat, TL.joinL (TL.tl (⟨#[]⟩ : Str)) ((l.map fun c => (⟨#[c]⟩ : Str)).map TL.tl) = l := by
    intro l
    induction l with
    | nil => rfl
    | cons a r ih =>
      cases r with
      | nil => rfl
      | cons b r' =>
        show [a] ++ ([] ++ TL.joinL [] _) = a :: b :: r'
        exact congrArg (a :: ·) ih
  rw [h]
/-- the first signs of a word repeated -/
theorem rep_all {z : Str} {n : Nat} (h : z.cps.toList.all isChar = true) : (repS z n).cps.toList.all isChar = true := by
  rw [repS_tl]
  rw [List.all_eq_true]
  intro c hc
  obtain ⟨l, hl, hcl⟩ := List.mem_flatten.mp hc
  rw [List.mem_replicate] at hl
  rw [hl.2] at hcl
  exact List.all_eq_true.mp h c hcl
theorem rep_len (z : Str) (n : Nat) : (repS z n).length = n * z.length := by
  show (List.replicate n z.cps.toList).flatten.toArray.size = _
  simp
  rfl
theorem cutS_to (x : Str) (k : Nat) : (cutS x none (some (k : Int))).cps.toList = x.cps.toList.take k := by
  unfold cutS
  show (x.cps.toList.drop _).take _ = _
  rw [HT.sIx_none, HT.sIx_nat, List.drop_zero, Nat.sub_zero]
  have e : x.length = x.cps.toList.length := rfl
  rw [e]
  by_cases h : k ≤ x.cps.toList.length
  · rw [Nat.min_eq_left h]
  · rw [Nat.min_eq_right (by omega), List.take_of_length_le (Nat.le_refl _), List.take_of_length_le (by omega)]
theorem txt_cut {x : Str} {a b k : Nat} (h1 : 9 ≤ x.length) (h2 : a ≤ 1 ∧ a ≤ k ∧ k ≤ b) (h3 : x.cps.toList.all isChar = true) : txt (.str (cutS x none (some (k : Int)))) a b = true := by
  have e : (cutS x none (some (k : Int))).cps.toList = x.cps.toList.take k := cutS_to x k
  have hl : (cutS x none (some (k : Int))).length = min k x.length := by
    show (cutS x none (some (k : Int))).cps.size = _
    rw [← Array.length_toList, e, List.length_take]
    rfl
  refine txt_of (by omega) (by omega) ?_
  rw [e, List.all_eq_true]
  intro c hc
  exact List.all_eq_true.mp h3 c (List.mem_of_mem_take hc)
def textWords : List Str := ["path", "accept-encoding", "a", ":method", "x=1; y=2"]
theorem words_ok : (textWords.all fun z => z.cps.toList.all isChar && decide (0 < z.length) && decide (z.length ≤ 15)) = true := by decide +kernel
/-! ### data of a bounded depth -/
def DLe : Nat → PyData → Prop
  | _, .none => True
  | _, .bool _ => True
  | _, .int _ => True
  | _, .str _ => True
  | 0, .list _ => False
  | 0, .tuple _ => False
  | n + 1, .list ds => ds.length ≤ 100000 ∧ ∀ d ∈ ds, DLe n d
  | n + 1, .tuple ds => ds.length ≤ 100000 ∧ ∀ d ∈ ds, DLe n d
  | _, _ => False
theorem dpAll_len {K : PySem.W.Frag} {H : Hp} : ∀ {xs : List V} {ds : List PyData}, DpAll K H xs ds → xs.length = ds.length
  | _, _, .nil => rfl
  | _, _, .cons _ t => by rw [List.length_cons, List.length_cons, dpAll_len t]
theorem dpAll_at {K : PySem.W.Frag} {H : Hp} : ∀ {xs : List V} {ds : List PyData} {i : Nat} {x : V}, DpAll K H xs ds → xs[i]? = some x → ∃ d, ds[i]? = some d ∧ Dp K H x d
  | _, _, _, _, .nil, e => by simp at e
  | _, _, 0, _, .cons h _, e => by simp at e; subst e; exact ⟨_, rfl, h⟩
  | _, _, i + 1, x, .cons _ t, e => by
    obtain ⟨d, h1, h2⟩ := dpAll_at (i := i) (x := x) t (by simpa using e)
    exact ⟨d, by simpa using h1, h2⟩
mutual
theorem dp_keep {K : PySem.W.Frag} {H H' : Hp} (s : Same H H') : ∀ {v : V} {d : PyData}, Dp K H v d → Dp K H' v d
  | _, _, .non => .non
  | _, _, .bl b => .bl b
  | _, _, .int i => .int i
  | _, _, .str x => .str x
  | _, _, .lst h a => .lst (s.seq h) (dpAll_keep s a)
  | _, _, .tup h a => .tup (s.tup h) (dpAll_keep s a)
theorem dpAll_keep {K : PySem.W.Frag} {H H' : Hp} (s : Same H H') : ∀ {vs : List V} {ds : List PyData}, DpAll K H vs ds → DpAll K H' vs ds
  | _, _, .nil => .nil
  | _, _, .cons h t => .cons (dp_keep s h) (dpAll_keep s t)
end
/-- _law_same on two values of the same data -/
def sp_law_same (K : PySem.W.Frag) (n : Nat) : Sp := fun vs H Q _ => ∃ (v u : V) (d : PyData), vs = [v, u] ∧ Dp K H v d ∧ Dp K H u d ∧ DLe n d ∧ ∀ H', Same H H' → Q (.bl true) H'
def sp_same_sub (K : PySem.W.Frag) : Nat → Sp
  | 0 => fun _ _ _ _ => False
  | m + 1 => sp_law_same K m
theorem walk_zipT {K : PySem.W.Frag} {a b : Addr} {xs ys : List V} {n : Nat} (hn : n = min xs.length ys.length) : Walk (RZ.ItzT K a b) n (fun H => SqT K H a xs ∧ SqT K H b ys) (YPair (fun i => xs[i]?) (fun i => ys[i]?)) := by
  subst hn
  refine ⟨fun i _ hi q => ?_, fun _ q => ⟨xs, ys, q.1, q.2, by omega⟩, fun i H v H' _ q y => ?_⟩
  · have h1 : i < xs.length := by omega
    have h2 : i < ys.length := by omega
    exact ⟨xs, ys, xs[i], ys[i], q.1, q.2, by simp [h1], by simp [h2]⟩
  · obtain ⟨T, x, z, h1, h2, h3, h4, h5⟩ := y
    exact ⟨T, x, z, h1, h2, h3, h4 xs q.1, h5 ys q.2⟩
theorem flat_trues (n : Nat) : ((List.range n).map fun _ => V.bl true).all flatV = true := by
  rw [List.all_map]; exact List.all_eq_true.mpr fun _ _ => rfl
theorem in_trues (n : Nat) : inV (.bl false) ((List.range n).map fun _ => V.bl true) = false := by
  unfold inV
  rw [List.any_map, List.any_eq_false]
  intro i _
  show ¬ (eqV (.bl true) (.bl false)) = true
  decide
/-- ints as data -/
theorem dp_ints {K : PySem.W.Frag} {H : Hp} : ∀ ns : List Int, DpAll K H (ns.map V.int) (ns.map PyData.int)
  | [] => .nil
  | n :: r => .cons (.int n) (dp_ints r)
theorem dp_lst {K : PySem.W.Frag} {H : Hp} {a : Addr} {ns : List Int} (h : H a = some (.lst (ns.map V.int))) : Dp K H (.ref a) (.list (ns.map PyData.int)) := .lst (SqL.of h) (dp_ints ns)
theorem dle_ints {ns : List Int} (h : ns.length ≤ 100000) (n : Nat) : DLe (n + 1) (.list (ns.map PyData.int)) := by
  refine ⟨by rw [List.length_map]; exact h, fun d hd => ?_⟩
  obtain ⟨i, _, rfl⟩ := List.mem_map.mp hd
  cases n <;> exact True.intro
end Fld
/-! The law's own def where what runs around it is known: no repr, no == is under way (Around.guards), so that repr of data may be walked in it. -/
namespace Fld
open PySem PySem.Spec PyProof.Rows L2
/-- a def as it is called from outside -/
structure TopOk (P : Program) (w : World) (K : PySem.W.Frag) (mg : Str → Option Value) (k : Nat) (f : Addr) (fd : FuncData) (ps : List Str) (sp : Sp) : Prop where
  len : ∀ vs H Q E, sp vs H Q E → vs.length = ps.length
  run : ∀ (base : Heap) (s : Shared) (H : Hp) (args : Args) (us : List Value) (vs : List V) (Q : VK) (E : XK), Room k callerA → Env0 P w K mg base callerA [] s H → BindsTo s fd args (ps.zip us) → Vals vs us → sp vs H Q E →
    codeAny (model P w) callerA (.call (.ref f) args) (CR CX0 [] P w H s Q E) s
/-- its body as a term of rules and the term's reading, the guards told -/
theorem top_of {P : Program} {w : World} {K : PySem.W.Frag} {mg : Str → Option Value} {x qual : Str} {st : Stmt} {f : Addr} {fd : FuncData} {N ps : List Str} {k : Nat} {sp : Sp} (F : Fun K x qual st f fd) (S : FnScope N ps (defScope st))
    (len : ∀ vs H Q E, sp vs H Q E → vs.length = ps.length)
    (hbody : ∀ (base : Heap) (cdv : Value) (A : Around) (outer : List Env) (s : Shared) (H : Hp) (vs : List V) (Q : VK) (E : XK), A.guards = some [] → Room k (A.deeper (envOfC qual (defScope st) s.heap.objs.size f cdv)) → sp vs H Q E →
      ∃ t, PSs (cxOf CX0 P w K mg base N qual (defScope st) f cdv A outer s H E).nox (defBody st) t ∧ t { nx := fun _ H' => Q .non H', rt := Q } (start N vs) H) :
    TopOk P w K mg (k + 1) f fd ps sp := by
  obtain ⟨oc, od, kV, doc, pm, an, cdv, ct, osl, rfl, lk, hcd⟩ := F.ex
  refine ⟨len, ?_⟩
  intro base s H args us vs Q E hr e0 hb r hsp
  have old := fun b o (e : base.get? b = some o) => (e0.bs b o e).1
  have KX : K.In s.heap := e0.mod.kin.keeps old
  have kinds : ∀ y ∈ ps.zip us, (defScope st).names.lookup y.1 = some .local ∨ ((defScope st).names.lookup y.1 = some .cell ∧ ((cellsFrom (s.heap.objs.size + 1) (defScope st).names []).lookup y.1).isSome = true) := by
    rintro ⟨n, v⟩ hy
    have hp := S.par n (List.of_mem_zip hy).1
    exact hp.elim Or.inl fun q => Or.inr ⟨q, PySem.W.cellsFrom_some _ _ _ (Or.inl q)⟩
  refine codeAny_call_function hr.depth (KX _ _ lk) rfl S.co S.gen rfl (PySem.W.codeRec_of KX hcd) (hb _ _ _ _ (wpAny_newFunctionEnv_cells S.kind kinds ?_))
  intro env he s1 x
  cases he
  refine ⟨(e0.mod.nolimit.keeps old).keeps x.toInCall.keep, codeAny_func ?_⟩
  obtain ⟨t, ht, hq⟩ := hbody base cdv callerA [] s H vs Q E rfl (hr.deeper _) hsp
  have I := inv_start (CX := CX0) (E := E) S hr.hd e0 (len _ _ _ _ hsp) r x
  refine wpAny_mono (ht.nox.run [] s1 (start N vs) H _ I hq) ?_ fun _ _ z => z
  intro fl s' hs
  match fl, hs with
  | .ret u, ⟨v, _, H', J, rv, q⟩ => exact ⟨v, H', J.os, J.bare, J.base, J.hok, rv, q⟩
  | .next, ⟨_, H', J, q⟩ => exact ⟨V.non, H', J.os, J.bare, J.base, J.hok, rfl, q⟩
  | .brk, ⟨_, _, _, q⟩ => exact q.elim
  | .cont, ⟨_, _, _, q⟩ => exact q.elim
/-- the abstract heap at the law's entry: the script alone, locked, or nothing where it is one of the module's own -/
theorem entry_heap {P : Program} {w : World} {K : PySem.W.Frag} {s : Shared} {a : Addr} {vs : List Value} {ns : List Int} (KX : K.In s.heap) (ha : s.heap.get? a = some { cls := .type "list", data := .seq vs.toArray }) (hi : IntsAre vs ns) (hl : ns.length ≤ sizeLine) :
    ∃ H : Hp, Only H ∧ SqL K H a (ns.map V.int) ∧ HOk P w H s.heap ∧ (∀ b, H b ≠ none → b = a) ∧ (H a ≠ none → K.lookup a = none) := by
  have rv := vals_of_ints hi
  cases hk : K.lookup a with
  | some o =>
    have e := (KX a o hk).symm.trans ha
    cases e
    refine ⟨fun _ => none, fun _ => .inl rfl, .inr ⟨_, vs.toArray, _, hk, rfl, rfl, rfl, ?_, by simpa using rv⟩, fun b u z => (nomatch z), fun b z => absurd rfl z, fun z => absurd rfl z⟩
    rw [List.size_toArray, hi.length]
    exact hl
  | none =>
    let H : Hp := fun b => if b = a then some (.frz { cls := .type "list", data := .seq vs.toArray } (.lst (ns.map V.int))) else none
    have at_a : H a = some (.frz { cls := .type "list", data := .seq vs.toArray } (.lst (ns.map V.int))) := if_pos rfl
    have off : ∀ b, b ≠ a → H b = none := fun b hb => if_neg hb
    refine ⟨H, fun b => ?_, .inl (.inr ⟨_, at_a⟩), fun b u z => ?_, fun b z => ?_, fun _ => rfl⟩
    · by_cases hb : b = a
      · subst hb; exact .inr ⟨_, _, at_a⟩
      · exact .inl (off b hb)
    · by_cases hb : b = a
      · subst hb
        rw [at_a] at z
        cases z
        exact ⟨ha, by rw [List.length_map]; exact hl, vs, _, rv, ha⟩
      · rw [off b hb] at z
        cases z
    · by_cases hb : b = a
      · exact hb
      · exact absurd (off b hb) z
theorem top_call {P : Program} {w : World} {K : PySem.W.Frag} {mg mb : Str → Option Value} {k : Nat} {fa a : Addr} {fd : FuncData} {x : Str} {sp : Sp} {s : Shared} {vs : List Value} {ns : List Int}
    (KX : K.In s.heap) (hns : s.heap.Ns mainGlobals mg) (hb : s.heap.Ns builtinsNs mb) (hbb : ∀ x : Str, x ≠ "__name__" → mb x = bootBuiltins x) (hlim : s.heap.NoLimit) (hg : s.gens = #[])
    (ha : s.heap.get? a = some { cls := .type "list", data := .seq vs.toArray }) (hi : IntsAre vs ns) (hl : ns.length ≤ sizeLine) (hr : Room k callerA) (F : TopOk P w K mg k fa fd [x] sp) (hbind : ∀ (s : Shared) (u : Value), BindsTo s fd ⟨[u], []⟩ [(x, u)])
    (hsp : ∀ H : Hp, Only H → SqL K H a (ns.map V.int) → sp [.ref a] H (fun v _ => v = .bl true) fun _ _ _ => False) :
    codeAny (model P w) callerA (.call (.ref fa) ⟨[.ref a], []⟩) (fun r s' => r = .ok (.ret (.bool true)) ∧ OldK s.heap s'.heap ∧ s'.os = s.os ∧ AllBare s'.gens) s := by
  obtain ⟨H, hO, hS, hok, hA, hK⟩ := entry_heap (P := P) (w := w) KX ha hi hl
  have other : ∀ {b : Addr} {o : Obj}, s.heap.get? b = some o → (b = a → False) → (hidT s.heap H).get? b = some o := fun {b o} e n => hidT_get e (by
    cases q : H b with
    | none => rfl
    | some u => exact (n (hA b (by rw [q]; simp))).elim)
  have noD : ∀ {b : Addr} {m : Str → Option Value}, s.heap.Ns b m → (hidT s.heap H).Ns b m := fun {b m} ⟨o, es, ep, e, d, r⟩ => ⟨o, es, ep, other e (fun z => by
    rw [z, ha] at e; cases e; cases d), d, r⟩
  have inK : K.In (hidT s.heap H) := fun b o e => hidT_get (KX b o e) (by
    cases q : H b with
    | none => rfl
    | some u =>
      have z := hA b (by rw [q]; simp)
      subst z
      rw [hK (by rw [q]; simp)] at e
      cases e)
  have M : Mod K mg (hidT s.heap H) := ⟨inK, noD hns, ⟨mb, noD hb, hbb⟩, let ⟨mc, h1, h2⟩ := hlim; ⟨mc, noD h1, h2⟩⟩
  have none_in : ∀ b : Addr, b ∉ frs [] := fun b z => (nomatch (show b ∈ ([] : List Addr) from z))
  have e0 : Env0 P w K mg (hidT s.heap H) callerA [] s H := { frames := rfl, mod := M, bs := fun b o e => of_hidT e, bsz := Nat.le_of_eq (hidT_size _ _), funs := trivial, frf := fun b z => (none_in b z).elim, hok := hok, bare := .of_eq hg }
  refine codeAny_mono (F.run _ s H ⟨[.ref a], []⟩ [.ref a] [.ref a] _ _ hr e0 (hbind s (.ref a)) (.cons rfl .nil) (hsp H hO hS)) ?_
  intro r s' h
  match r, h with
  | .ok (.ret u), ⟨v, H', os, bare, un, hok', rv, q⟩ =>
    cases (show v = .bl true from q)
    cases (show u = Value.bool true from rv)
    refine ⟨rfl, OldK.of_keep fun b o e => ?_, os, bare⟩
    rcases hO b with z | ⟨ob, xs, z⟩
    · exact un.keep b o e z (none_in b) (by simp)
    · have e1 := (hok b _ z).1
      rw [e] at e1
      cases e1
      exact (hok' b _ (un.frzs b _ _ z)).1
theorem walk_top {l : PySem.W.OpenLaw} {n k : Nat} {q : Program} {loose : List Str} {XP : (Str → Option Value) → Heap → Prop} {YP : World → Heap → Prop} {d : DefRec} {K : Params → PySem.W.Frag} {sp : World → Sp} {x : Str}
    (hn : l.most = some n) (hn2 : n ≤ sizeLine) (hdf : d.params.defaults = []) (hr : Room k callerA)
    (hY : ∀ (w : World) (h : Heap), YP w h → (K w.params).In h)
    (F : ∀ (w : World) (mg : Str → Option Value) (fa : Addr) (h : Heap), (K w.params).In h → h.Ns mainGlobals mg → mg d.name = some (.ref fa) →
      ∃ fd : FuncData, (∀ (s : Shared) (u : Value), BindsTo s fd ⟨[u], []⟩ [(x, u)]) ∧ TopOk l.prog w (K w.params) mg k fa fd [x] (sp w))
    (hsp : ∀ (w : World) (H : Hp) (a : Addr) (ns : List Int), ns.length ≤ n → Only H → SqL (K w.params) H a (ns.map V.int) → sp w [.ref a] H (fun v _ => v = .bl true) fun _ _ _ => False) :
    PySem.W.WalkO q loose XP YP l.row.toRowW d [] (fun f vs => PySem.call f vs) := by
  refine Att.attach_call hn hdf ?_
  intro w s₀ s₁ mg mb fa o pm cd doc a vs ns G Y ho hd hcd hmg hobj hints hlen hg
  obtain ⟨fd, hbi, hF⟩ := F w mg fa _ (hY w _ Y) G.T.g hmg
  exact top_call (hY w _ Y) G.T.g G.T.b G.T.builtins G.T.nolimit hg hobj hints (Nat.le_trans hlen hn2) hr hF hbi fun H hO hS => hsp w H a ns hlen hO hS
end Fld
/-! repr of data: how long its text may be, and the rule of the call. -/
namespace Fld
open PySem PySem.Spec PyProof.Rows L2
mutual
def okD : PyData → Bool
  | .none => true
  | .bool _ => true
  | .int i => decide (i.natAbs < 2 ^ 1000)
  | .str x => x.cps.toList.all fun c => decide (c < 4294967296)
  | .list xs => okAll xs
  | .tuple xs => okAll xs
  | .dict _ => false
def okAll : List PyData → Bool
  | [] => true
  | x :: xs => okD x && okAll xs
end
mutual
/-- no less than the length of its text -/
def wD : PyData → Nat
  | .none => 4
  | .bool _ => 5
  | .int _ => 1010
  | .str x => 10 * x.length + 2
  | .list xs => wAll xs + 4
  | .tuple xs => wAll xs + 4
  | .dict _ => 0
def wAll : List PyData → Nat
  | [] => 0
  | x :: xs => wD x + 2 + wAll xs
end
theorem textFrom_le : ∀ (ts : List Str) (k : Nat) (acc : Str), (textFrom k acc ts).length ≤ acc.length + piled ts
  | [], k, acc => by show acc.length ≤ _; omega
  | t :: r, k, acc => by
    have ih := textFrom_le r (k + 1) (acc ++ (if k > 0 then ", " else "" : String) ++ t)
    have e : (acc ++ (if k > 0 then ", " else "" : String) ++ t).length ≤ acc.length + 2 + t.length := by
      rw [strLen_append, strLen_append]
      split
      · exact Nat.le_refl _
      · show acc.length + 0 + t.length ≤ _; omega
    have e2 : piled (t :: r) = t.length + 2 + piled r := by unfold piled; rw [List.map_cons, List.sum_cons]
    show (textFrom (k + 1) _ r).length ≤ _
    omega
theorem listText_le (ts : List Str) : (listText ts).length ≤ piled ts + 4 := by
  unfold listText
  rw [strLen_append]
  have h := textFrom_le ts 0 "["
  have e1 : ((("[" : String) : Str)).length = 1 := rfl
  have e2 : ((("]" : String) : Str)).length = 1 := rfl
  omega
theorem tupleText_le (ts : List Str) : (tupleText ts).length ≤ piled ts + 4 := by
  unfold tupleText
  rw [strLen_append, strLen_append]
  have e1 : ((("(" : String) : Str)).length = 1 := rfl
  have e3 : (((if ts.length == 1 then ",)" else ")" : String) : Str)).length ≤ 2 := by split <;> decide
  by_cases h : ts = []
  · subst h
    have e0 : (Str.join ", " []).length = 0 := rfl
    omega
  · have := join_length_add ts h
    omega
theorem toString_le {i : Int} (h : i.natAbs < 2 ^ 1000) : (Str.ofString (toString i)).length ≤ 1010 := by
  have h1 : (Nat.repr i.natAbs).length ≤ 1000 := nat_repr_length_le (by decide) h
  have e : ∀ z : String, (Str.ofString z).length = z.length := fun z => by
    rw [TL.len_tl, TL.tl_ofString, List.length_map]
    rfl
  rw [e]
  cases i with
  | ofNat n =>
    have : (toString (Int.ofNat n)) = Nat.repr n := rfl
    rw [this]
    have h2 : (Nat.repr n).length ≤ 1000 := h1
    omega
  | negSucc n =>
    have : (toString (Int.negSucc n)) = "-" ++ Nat.repr (n + 1) := rfl
    rw [this, String.length_append]
    have h2 : (Nat.repr (n + 1)).length ≤ 1000 := h1
    have h3 : ("-" : String).length = 1 := rfl
    omega
theorem log_le {n : Nat} (h : n < 2 ^ 1000) : n.log2 < 1920 := by
  by_cases e : n = 0
  · subst e; decide
  · exact Nat.lt_trans ((Nat.log2_lt e).mpr h) (by decide)
mutual
theorem shown_le : ∀ d : PyData, okD d = true → d.shown.length ≤ wD d ∧ d.showable = true ∧ d.hasDict = false
  | .none, _ => ⟨by decide, rfl, rfl⟩
  | .bool b, _ => ⟨by cases b <;> decide, rfl, rfl⟩
  | .int i, h => by
    have h' : i.natAbs < 2 ^ 1000 := of_decide_eq_true (show decide _ = true from h)
    exact ⟨toString_le h', decide_eq_true (log_le h'), rfl⟩
  | .str x, h => by
    refine ⟨StrLaws.reprText_len x fun c hc => ?_, rfl, rfl⟩
    have h' : (x.cps.toList.all fun c => decide (c < 4294967296)) = true := h
    have := of_decide_eq_true (List.all_eq_true.mp h' c hc)
    have e : (16 : Nat) ^ 8 = 4294967296 := by decide
    omega
  | .list xs, h => by
    have ih := shownAll_le xs h
    refine ⟨?_, by rw [PyData.showable]; exact ih.2.1, by rw [PyData.hasDict]; exact ih.2.2⟩
    rw [PyData.shown, wD]
    have := listText_le (PyData.shownAll xs)
    omega
  | .tuple xs, h => by
    have ih := shownAll_le xs h
    refine ⟨?_, by rw [PyData.showable]; exact ih.2.1, by rw [PyData.hasDict]; exact ih.2.2⟩
    rw [PyData.shown, wD]
    have := tupleText_le (PyData.shownAll xs)
    omega
  | .dict _, h => by cases h
theorem shownAll_le : ∀ ds : List PyData, okAll ds = true → piled (PyData.shownAll ds) ≤ wAll ds ∧ PyData.showableAll ds = true ∧ PyData.hasDictAll ds = false
  | [], _ => ⟨by rw [PyData.shownAll]; exact Nat.le_refl _, rfl, rfl⟩
  | d :: ds, h => by
    have h' : (okD d && okAll ds) = true := by rw [okAll] at h; exact h
    rw [Bool.and_eq_true] at h'
    have i1 := shown_le d h'.1
    have i2 := shownAll_le ds h'.2
    refine ⟨?_, by rw [PyData.showableAll, i1.2.1, i2.2.1]; rfl, by rw [PyData.hasDictAll, i1.2.2, i2.2.2]; rfl⟩
    rw [PyData.shownAll, wAll]
    have e2 : piled (d.shown :: PyData.shownAll ds) = d.shown.length + 2 + piled (PyData.shownAll ds) := by unfold piled; rw [List.map_cons, List.sum_cons]
    omega
end
mutual
theorem dle_depth : ∀ (d : PyData) (n : Nat), DLe n d → d.depth ≤ n
  | .none, _, _ => by rw [PyData.depth]; omega
  | .bool _, _, _ => by rw [PyData.depth]; omega
  | .int _, _, _ => by rw [PyData.depth]; omega
  | .str _, _, _ => by rw [PyData.depth]; omega
  | .list xs, 0, h => (by simp [DLe] at h)
  | .list xs, n + 1, h => by
    have h' : xs.length ≤ 100000 ∧ ∀ d ∈ xs, DLe n d := by simpa [DLe] using h
    rw [PyData.depth]
    have := dle_depthAll xs n h'.2
    omega
  | .tuple xs, 0, h => (by simp [DLe] at h)
  | .tuple xs, n + 1, h => by
    have h' : xs.length ≤ 100000 ∧ ∀ d ∈ xs, DLe n d := by simpa [DLe] using h
    rw [PyData.depth]
    have := dle_depthAll xs n h'.2
    omega
  | .dict _, n, h => by cases n <;> simp [DLe] at h
theorem dle_depthAll : ∀ (ds : List PyData) (n : Nat), (∀ d ∈ ds, DLe n d) → PyData.depthAll ds ≤ n
  | [], _, _ => by rw [PyData.depthAll]; omega
  | d :: ds, n, h => by
    rw [PyData.depthAll]
    have h1 := dle_depth d n (h d (List.mem_cons_self ..))
    have h2 := dle_depthAll ds n fun e he => h e (List.mem_cons_of_mem _ he)
    omega
end
def rRepr (K : PySem.W.Frag) : List V → Hp → VK → Prop := fun xs H Q => ∃ (x : V) (d : PyData) (n : Nat), xs = [x] ∧ Dp K H x d ∧ okD d = true ∧ DLe n d ∧ n ≤ 40 ∧ wD d ≤ 10000000 ∧ Q (.str d.shown) H
theorem call_repr {X : Cx} (hg : X.A.guards = some []) (hu : X.A.units + 64 < cLine) : CallR X (.builtin "repr") (rRepr X.K) := by
  intro pins s σ H xs us Q I r h
  obtain ⟨x, d, n, rfl, hd, ok, hn, hn2, hw, q⟩ := h
  obtain ⟨u, rfl, ru⟩ := vals1 r
  obtain ⟨hl, hs, hnd⟩ := shown_le d ok
  have hsz : d.shown.length ≤ sizeLine := by rw [sizeLine_eq]; omega
  obtain ⟨as, rd⟩ := Dp.reads I d x u hd ru
  have hdep := dle_depth d n hn
  cases hd with
  | non =>
    cases ru
    exact P.repr_of_none ⟨.str _, H, I.tok _, ⟨_, rfl⟩, q⟩
  | bl b =>
    cases ru
    exact P.repr_of_bool ⟨.str _, H, I.tok _, ⟨_, rfl⟩, q⟩
  | int i =>
    obtain ⟨t, rfl⟩ := ru
    have h' : i.natAbs < 2 ^ 1000 := of_decide_eq_true (show decide _ = true from ok)
    exact P.repr_of_int (log_le h') ⟨.str _, H, I.tok _, ⟨_, rfl⟩, q⟩
  | str y =>
    obtain ⟨t, rfl⟩ := ru
    exact P.repr_of_str ⟨.str _, H, I.tok _, ⟨_, rfl⟩, q⟩ hsz
  | lst _ _ =>
    cases ru
    exact repr_of_reads' rd hs (PyData.noDict_hsm hnd) hg (by omega) (fun _ _ e => e) (fun h' tu tk hk => ⟨.str _, H, I.kept hk, ⟨_, rfl⟩, q⟩) hsz
  | tup _ _ =>
    cases ru
    exact repr_of_reads' rd hs (PyData.noDict_hsm hnd) hg (by omega) (fun _ _ e => e) (fun h' tu tk hk => ⟨.str _, H, I.kept hk, ⟨_, rfl⟩, q⟩) hsz
end Fld
/-! Errors of the program: a base of its own over ValueError, whose __init__ is called by name out of the __init__ of its heirs. -/
namespace Fld
open PySem PySem.Spec PyProof.Rows L2
section
variable {X : Cx} {e : Expr} {es : List Expr} {ta : TA} {x : Str} {FE : Addr} {mc : Value} {p1 p2 pos : Pos}
/-- what the written part says of the base -/
structure BaseC (K : PySem.W.Frag) (mg : Str → Option Value) (x : Str) (FE : Addr) (mc : Value) : Prop where
  g : mg x = some (.ref FE)
  rd : ClX.CRead K FE mc
  ini : PySem.W.findCls K (.ref FE) mc "__init__" = some (.val (.builtin "ValueError.__init__"))
theorem pe_feinit {pl : Sem Bool} (B : BaseC X.K X.mg x FE mc) (hg : Gl X x) (ha : PA X (e :: es) ta) (hdb : (x == ("__debug__" : Str)) = false := by decide)
    (hc : eval (.Call (.Attribute (.Name x p1) "__init__" p2) (e :: es) [] pos) X.env = (do
      let ov ← eval (.Name x p1) X.env
      standAt p2.atName
      let (f, first) ← holding [ov] (getMethod ov "__init__" pl)
      callWith pos f first (backTo pos (starEach (e :: es) X.env)) (backToKw pos (keywordEach [] X.env))) := by rfl)
    (he : starEach (e :: es) X.env = (false, eval e X.env) :: starEach es X.env := by rfl) (hpl : (backTo pos (starEach es X.env)).any (·.1) = false := by rfl) :
    PE X (.Call (.Attribute (.Name x p1) "__init__" p2) (e :: es) [] pos) (tVeI X.K ta) := by
  refine ⟨?_⟩
  intro pins s σ H Q I h
  refine PySem.W.methodCall_KW (ld_glob I hg B.g ?_ hdb) hc
  refine PySem.W.method_cls I.kIn B.rd.ga (PySem.W.cls_value I.kIn B.rd.rd B.ini rfl ?_)
  show wpAny _ _ (callWith pos (Value.builtin "ValueError.__init__") [] (backTo pos (starEach (e :: es) X.env)) []) _ _ _
  refine PyProof.Rows.callWith_method1 (thn (ha.run pos pins _ σ H _ (I.tok _) h) ?_) he hpl
  rintro us s1 ⟨vs, H1, I1, r1, a, C, ws, rfl, hl, TC, ea, q⟩
  cases r1 with
  | cons ra rw' =>
    cases (show _ = Value.ref a from ra)
    exact oinit_ok TC I1 ea (by rw [← Paired.length rw', sizeLine_eq]; omega) fun s' J => ⟨.non, H1, J, rfl, q⟩
end
/-- __init__ of an heir: its one argument is kept as the attribute f -/
def sp_err (C : Addr) (f : Str) : Sp := fun vs H Q _ => ∃ (a : Addr) (k : Int), vs = [.ref a, .int k] ∧ k.natAbs < 2 ^ 1000 ∧ H a = some (exo a C none) ∧
  ∀ dx, H dx = none → dx ≠ a → Q .non (upd (upd H dx (exd dx [(f, .int k)])) a (exo a C (some dx)))
/-- what the written part says of an heir at C, its __init__ at fI -/
structure ErrC (K : PySem.W.Frag) (mg : Str → Option Value) (x f : Str) (C fI : Addr) : Prop where
  ox : OexC K C
  g : mg x = some (.ref C)
  iC : PySem.W.findIn K (.ref C) "__init__" = some (some (.ref fI))
  tI : PySem.W.typeIn K (.ref fI) = some (.type "function")
  no : PySem.W.findIn K (.ref C) f = some none
/-- raise C(e): what its reading asks behind the argument -/
def tRaiseE (C : Addr) (f : Str) (W : WX) (ta : TA) : TS := fun _ σ H => tMkO C (sp_err C f) [] ta σ H fun cls d H' => W cls d σ H'
theorem ps_raiseE {X : Cx} {CX : CXT} {x f : Str} {C fI : Addr} {k : Nat} {fd : FuncData} {e : Expr} {ta : TA} {W : WX} {p pos pos2 : Pos} (hcalm : X.calm = true) (T : ErrC X.K X.mg x f C fI) (F1 : FnOk X.prog X.w X.K X.mg X.base CX k fI fd ["self", f] (sp_err C f)) (hr : Room (k + 1) X.A) (hb : Binds X.K fd ["self", f] [])
    (hx : Passes CX X (fun _ _ _ => False)) (tk : Takes X W) (hg : Gl X x) (ha : PA X [e] ta)
    (hdb : (x == ("__debug__" : Str)) = false := by decide) (he : starEach (e :: []) X.env = (false, eval e X.env) :: starEach [] X.env := by rfl) (hpl : (backTo pos (starEach [] X.env)).any (·.1) = false := by rfl) :
    PS X (.Raise (some (.Call (.Name x p) [e] [] pos)) none pos2) (tRaiseE C f W ta) :=
  ps_raise (pos := pos2) hcalm tk (pmk_oex (pos := pos) (p := p) T.ox T.iC T.tI F1 hr hb .nil hx hg T.g ha hdb he hpl)
/-- the error's own dict, new, holds the number; all that stood stands -/
theorem err_go {C : Addr} {f : Str} {k : Int} {H1 : Hp} {Q : Value → Option Addr → Hp → Prop} (hk : k.natAbs < 2 ^ 1000) (q : ∀ (d : Addr) H', Same H1 H' → H1 d = none → H' d = some (.xd [(f, .int k)]) → Q (.ref C) (some d) H') :
    ([V.int k] : List V).length ≤ 1000 ∧ ∀ a, H1 a = none → sp_err C f (.ref a :: ([.int k] ++ [])) (upd H1 a (exo a C none)) (fun v H2 => v = .non ∧ ∃ (d : Addr) (fs : List (Str × V)), H2 a = some (exo a C (some d)) ∧ H2 d = some (exd d fs) ∧ H1 d = none ∧ Q (.ref C) (some d) (upd (del H2 a) d (.xd fs))) (fun _ _ _ => False) := by
  refine ⟨by show 1 ≤ 1000; decide, fun a hna => ⟨a, k, rfl, hk, upd_same, fun dx hdx hda => ⟨rfl, dx, [(f, .int k)], upd_same, ?_, ?_, ?_⟩⟩⟩
  · rw [upd_ne hda, upd_same]
  · rw [upd_ne hda] at hdx; exact hdx
  · have hdx' : H1 dx = none := by rw [upd_ne hda] at hdx; exact hdx
    refine q dx _ (fun b o hb => ?_) hdx' upd_same
    have n1 : b ≠ dx := ne_of_none hb hdx'
    have n2 : b ≠ a := ne_of_none hb hna
    rw [upd_ne n1, del_ne n2, upd_ne n2, upd_ne n1, upd_ne n2]
    exact hb
/-- a plain heir: no __init__ of its own -/
structure PlainC (K : PySem.W.Frag) (mg : Str → Option Value) (x : Str) (C : Addr) (bm : List Value) : Prop where
  g : mg x = some (.ref C)
  x_ : PySem.W.excIn K C bm "ValueError.__new__" = true
  k_ : PySem.W.keepIn K (.ref C) = true
  b_ : PySem.W.subIn K (.ref C) (.type "BaseException") = some true
  t_ : PySem.W.typeIn K (.ref C) = some (.type "type")
/-- what an except clause asks of a base of the program's own -/
structure RootC (K : PySem.W.Frag) (C : Addr) : Prop where
  b_ : PySem.W.subIn K (.ref C) (.type "BaseException") = some true
  t_ : PySem.W.typeIn K (.ref C) = some (.type "type")
  d_ : PySem.W.hasDictIn K C = true
structure HeirC (K : PySem.W.Frag) (C FE : Addr) : Prop where
  b_ : PySem.W.subIn K (.ref C) (.type "BaseException") = some true
  t_ : PySem.W.typeIn K (.ref C) = some (.type "type")
  u_ : PySem.W.subIn K (.ref C) (.ref FE) = some true
theorem RootC.exm {K : PySem.W.Frag} {C FE : Addr} (r : RootC K FE) (h : HeirC K C FE) : PySem.W.exmOne K (.ref C) (.ref FE) = some true := PySem.W.exm_ref r.b_ r.d_ r.t_ h.u_
/-- text += text on a local -/
def ipT : TIp := fun x y H Q => ∃ i j, x = .str i ∧ y = .str j ∧ i.length + j.length ≤ sizeLine ∧ Q (.str (i ++ j)) H
theorem ip_addT {X : Cx} : PIp X .Add ipT := fun pins s σ H x y u v Q I rx ry h => iop_add_str pins s σ H x y u v Q I rx ry h
end Fld
/-! The reader of octets: its state, what its calls return or raise, by a mirror over the list of octets. -/
namespace Fld
open PySem PySem.Spec PyProof.Rows L2
/-- the reader at r, over the octets os at a, stands at place k -/
structure Rd (K : PySem.W.Frag) (C : Addr) (H : Hp) (r a : Addr) (os : List Int) (k : Nat) : Prop where
  ex : ∃ dx, H r = some (.ins C dx [("octets", .ref a), ("place", .int (k : Nat))])
  sq : SqL K H a (os.map V.int)
  ne : a ≠ r
  lt : ∀ o ∈ os, 0 ≤ o ∧ o < 256
  len : os.length ≤ 1000000
  le : k ≤ os.length
theorem Rd.keep {K : PySem.W.Frag} {C r a : Addr} {H H' : Hp} {os : List Int} {k : Nat} (h : Rd K C H r a os k) (s : Same H H') : Rd K C H' r a os k := by
  obtain ⟨dx, e⟩ := h.ex
  exact ⟨⟨dx, s _ _ e⟩, s.seq h.sq, h.ne, h.lt, h.len, h.le⟩
theorem Rd.get {K : PySem.W.Frag} {C r a : Addr} {H : Hp} {os : List Int} {k : Nat} (h : Rd K C H r a os k) {o : Int} (e : os[k]? = some o) : 0 ≤ o ∧ o < 256 := h.lt o (List.mem_of_getElem? e)
theorem Rd.end_ {K : PySem.W.Frag} {C r a : Addr} {H : Hp} {os : List Int} {k : Nat} (h : Rd K C H r a os k) (e : os[k]? = none) : k = os.length := by
  have := List.getElem?_eq_none_iff.mp e
  have := h.le
  omega
/-- an error with the place e -/
def RdErr (N r : Addr) (H : Hp) (E : XK) (e : Nat) : Prop := ∀ (d : Addr) H', But r H H' → H' d = some (.xd [("place", .int (e : Nat))]) → E (.ref N) (some d) H'
theorem RdErr.pre {N r : Addr} {H H1 : Hp} {E : XK} {e : Nat} (b : But r H H1) (h : RdErr N r H E e) : RdErr N r H1 E e := fun d H' b2 hd => h d H' (b.trans b2) hd
/-- a call: a value, the place moved; or the error -/
def RdRes {α : Type} (K : PySem.W.Frag) (C N r a : Addr) (os : List Int) (H : Hp) (Q : VK) (E : XK) (R : α → V → Hp → Prop) : Except Nat (α × Nat) → Prop
  | .ok (x, k') => ∀ v H', But r H H' → Rd K C H' r a os k' → R x v H' → Q v H'
  | .error e => RdErr N r H E e
theorem lenL {K : PySem.W.Frag} {H : Hp} {a : Addr} {xs : List V} (h : SqL K H a xs) : LenV K (.ref a) H xs.length := .inl ⟨xs, h, rfl⟩
theorem small_int {K : PySem.W.Frag} {C r a : Addr} {H : Hp} {os : List Int} {k : Nat} (h : Rd K C H r a os k) : ((k : Nat) : Int).natAbs < 2 ^ 1000 := by
  have h1 := h.le
  have h2 := h.len
  have h3 : (1000001 : Nat) < 2 ^ 1000 := by decide +kernel
  rw [Int.natAbs_natCast]
  omega
/-! ### mirrors -/
def takeRest (most : Int) : List Int → Nat → Int → Int → Except Nat (Int × Nat)
  | [], k, _, _ => .error k
  | o :: l, k, r, w =>
    if 128 ≤ o then (if r + (o - 128) * w + w * 128 ≤ most then takeRest most l (k + 1) (r + (o - 128) * w) (w * 128) else .error k)
    else if r + o * w ≤ most ∧ (0 < o ∨ w = 1) then .ok (r + o * w, k + 1) else .error k
def takeNum (os : List Int) (b m : Nat) (least most : Int) (k : Nat) : Except Nat (Int × Nat) :=
  match os[k]? with
  | none => .error k
  | some o => if least ≤ o - m ∧ o - m ≤ min ((2 ^ b - 1 : Nat) : Int) most then
      (if o - m < ((2 ^ b - 1 : Nat) : Int) then .ok (o - m, k + 1)
       else (takeRest (most - ((2 ^ b - 1 : Nat) : Int)) (os.drop (k + 1)) (k + 1) 0 1).map fun z => (((2 ^ b - 1 : Nat) : Int) + z.1, z.2))
    else .error k
def takeChars : Nat → List Int → Nat → Except Nat (List Nat × Nat)
  | 0, _, k => .ok ([], k)
  | _ + 1, [], k => .error k
  | n + 1, o :: l, k => if isChar o.toNat then (takeChars n l (k + 1)).map fun z => (o.toNat :: z.1, z.2) else .error k
def takeStr (os : List Int) (b m : Nat) (least most : Int) (k : Nat) : Except Nat (Str × Nat) :=
  match takeNum os b m least most k with
  | .error e => .error e
  | .ok (n, k1) => (takeChars n.toNat (os.drop k1) k1).map fun z => (⟨z.1.toArray⟩, z.2)
theorem takeRest_bound (most : Int) : ∀ (l : List Int) (k : Nat) (r w : Int) (n : Int) (k1 : Nat), 0 ≤ r → 0 ≤ w → (∀ o ∈ l, 0 ≤ o) → takeRest most l k r w = .ok (n, k1) → 0 ≤ n ∧ n ≤ most
  | [], k, r, w, n, k1, _, _, _, h => by rw [takeRest] at h; cases h
  | o :: l, k, r, w, n, k1, hr, hw, ho, h => by
    have ho1 := ho o (List.mem_cons_self ..)
    have hm := Int.mul_nonneg ho1 hw
    rw [takeRest] at h
    by_cases h1 : 128 ≤ o
    · rw [if_pos h1] at h
      by_cases h2 : r + (o - 128) * w + w * 128 ≤ most
      · rw [if_pos h2] at h
        have := Int.mul_nonneg (show 0 ≤ o - 128 by omega) hw
        exact takeRest_bound most l _ _ _ n k1 (by omega) (by omega) (fun x hx => ho x (List.mem_cons_of_mem _ hx)) h
      · rw [if_neg h2] at h; cases h
    · rw [if_neg h1] at h
      by_cases h2 : r + o * w ≤ most ∧ (0 < o ∨ w = 1)
      · rw [if_pos h2] at h
        cases h
        exact ⟨by omega, h2.1⟩
      · rw [if_neg h2] at h; cases h
theorem takeNum_bound (os : List Int) (b m : Nat) (least most : Int) (k : Nat) (hos : ∀ o ∈ os, 0 ≤ o) : ∀ n k1, takeNum os b m least most k = .ok (n, k1) → least ≤ n ∧ n ≤ most := by
  intro n k1 h
  rw [takeNum] at h
  cases ho : os[k]? with
  | none => rw [ho] at h; cases h
  | some o =>
    rw [ho] at h
    dsimp only at h
    have hp0 := pow_pos2 b
    by_cases h1 : least ≤ o - (m : Int) ∧ o - (m : Int) ≤ min ((2 ^ b - 1 : Nat) : Int) most
    · rw [if_pos h1] at h
      by_cases h2 : o - (m : Int) < ((2 ^ b - 1 : Nat) : Int)
      · rw [if_pos h2] at h
        cases h
        omega
      · rw [if_neg h2] at h
        cases ht : takeRest (most - ((2 ^ b - 1 : Nat) : Int)) (os.drop (k + 1)) (k + 1) 0 1 with
        | error z => rw [ht] at h; cases h
        | ok z =>
          rw [ht] at h
          cases h
          have := takeRest_bound _ _ _ _ _ z.1 z.2 (by decide) (by decide) (fun x hx => hos x (List.mem_of_mem_drop hx)) ht
          omega
    · rw [if_neg h1] at h; cases h
def rInt : Int → V → Hp → Prop := fun z v _ => v = .int z
def rStr : Str → V → Hp → Prop := fun x v _ => v = .str x
/-! ### what is promised -/
def sp_Reader_init (K : PySem.W.Frag) : Sp := fun vs H Q _ => ∃ (r a C dx : Addr), vs = [.ref r, .ref a] ∧ H r = some (.ins C dx []) ∧ Cls K C ∧ NoAttr K C "octets" ∧ NoAttr K C "place" ∧
  ∀ H', (∀ b, b ≠ r → H' b = H b) → H' r = some (.ins C dx [("octets", .ref a), ("place", .int 0)]) → Q .non H'
def sp_Reader_at_end (K : PySem.W.Frag) (C : Addr) : Sp := fun vs H Q _ => ∃ (r a : Addr) (os : List Int) (k : Nat), vs = [.ref r] ∧ Rd K C H r a os k ∧ Q (.bl (decide (k = os.length))) H
def sp_Reader_look (K : PySem.W.Frag) (C N : Addr) : Sp := fun vs H Q E => ∃ (r a : Addr) (os : List Int) (k : Nat), vs = [.ref r] ∧ Rd K C H r a os k ∧ (os[k]? = none → RdErr N r H E k) ∧ ∀ o, os[k]? = some o → Q (.int o) H
def sp_Reader_accept (K : PySem.W.Frag) (C N : Addr) : Sp := fun vs H Q E => ∃ (r a : Addr) (os : List Int) (k : Nat) (b : Bool), vs = [.ref r, .bl b] ∧ Rd K C H r a os k ∧ k < os.length ∧ (b = false → RdErr N r H E k) ∧
  (b = true → ∀ H', But r H H' → Rd K C H' r a os (k + 1) → Q .non H')
theorem acc_of {K : PySem.W.Frag} {C N r a : Addr} {os : List Int} {k : Nat} {H : Hp} {Q' : VK} {E : XK} {bb : Bool} {p : Prop} [Decidable p] (R : Rd K C H r a os k) (hlt : k < os.length) (hb : bb = decide p) (h1 : ¬ p → RdErr N r H E k)
    (h2 : p → ∀ H1, But r H H1 → Rd K C H1 r a os (k + 1) → Q' .non H1) : sp_Reader_accept K C N [.ref r, .bl bb] H Q' E :=
  ⟨r, a, os, k, bb, rfl, R, hlt, fun e => h1 (of_decide_eq_false (hb.symm.trans e)), fun e => h2 (of_decide_eq_true (hb.symm.trans e))⟩
theorem RdRes.pre {α : Type} {K : PySem.W.Frag} {C N r a : Addr} {os : List Int} {H H1 : Hp} {Q : VK} {E : XK} {R : α → V → Hp → Prop} {x : Except Nat (α × Nat)} (b : But r H H1) (h : RdRes K C N r a os H Q E R x) : RdRes K C N r a os H1 Q E R x := by
  cases x with
  | error e => exact RdErr.pre b h
  | ok z => exact fun v H' b2 R2 hv => h v H' (b.trans b2) R2 hv
def sp_Reader_finish (K : PySem.W.Frag) (C N : Addr) : Sp := fun vs H Q E => ∃ (r a : Addr) (os : List Int) (k : Nat), vs = [.ref r] ∧ Rd K C H r a os k ∧ (k ≠ os.length → RdErr N r H E k) ∧ (k = os.length → Q .non H)
def sp_Reader_take_rest (K : PySem.W.Frag) (C N : Addr) : Sp := fun vs H Q E => ∃ (r a : Addr) (os : List Int) (k : Nat) (most : Int), vs = [.ref r, .int most] ∧ Rd K C H r a os k ∧ most ≤ 1000000 ∧ RdRes K C N r a os H Q E rInt (takeRest most (os.drop k) k 0 1)
def sp_Reader_take_number (K : PySem.W.Frag) (C N : Addr) : Sp := fun vs H Q E => ∃ (r a : Addr) (os : List Int) (k b m : Nat) (least most : Int), vs = [.ref r, .int (b : Nat), .int (m : Nat), .int least, .int most] ∧ Rd K C H r a os k ∧ b ≤ 8 ∧ most ≤ 1000000 ∧
  RdRes K C N r a os H Q E rInt (takeNum os b m least most k)
def sp_Reader_take_string (K : PySem.W.Frag) (C N : Addr) : Sp := fun vs H Q E => ∃ (r a : Addr) (os : List Int) (k b m : Nat) (least most : Int), vs = [.ref r, .int (b : Nat), .int (m : Nat), .int least, .int most] ∧ Rd K C H r a os k ∧ b ≤ 8 ∧ 0 ≤ least ∧ most ≤ 10000 ∧
  RdRes K C N r a os H Q E rStr (takeStr os b m least most k)
def sp_Reader_take_name (K : PySem.W.Frag) (C N : Addr) : Sp := fun vs H Q E => ∃ (r a : Addr) (os : List Int) (k b m : Nat), vs = [.ref r, .int (b : Nat), .int (m : Nat)] ∧ Rd K C H r a os k ∧ b ≤ 8 ∧ RdRes K C N r a os H Q E rStr (takeStr os b m 1 20 k)
def sp_Reader_take_value (K : PySem.W.Frag) (C N : Addr) : Sp := fun vs H Q E => ∃ (r a : Addr) (os : List Int) (k : Nat), vs = [.ref r] ∧ Rd K C H r a os k ∧ RdRes K C N r a os H Q E rStr (takeStr os 7 0 0 40 k)
end Fld
/-! Instructions and answers: their values, their octets, what is read of octets. -/
namespace Fld
open PySem PySem.Spec PyProof.Rows L2
def sp_is_stream (K : PySem.W.Frag) : Sp := fun vs H Q _ => ∃ (v : V) (t : String), vs = [v] ∧ Kind K H v t ∧ Q (.bl (btw v 0 20)) H
def sp_is_name (K : PySem.W.Frag) : Sp := fun vs H Q _ => ∃ (v : V) (t : String), vs = [v] ∧ Kind K H v t ∧ (∀ x, v = .str x → x.length ≤ 100000) ∧ ∀ H', Same H H' → Q (.bl (txt v 1 20)) H'
/-- a list of any values of a kind, or a value of another kind: what comes for each -/
def AnyL (K : PySem.W.Frag) (H : Hp) (v : V) (Y : List V → Prop) (N : Prop) : Prop :=
  (∃ a xs, v = .ref a ∧ SqL K H a xs ∧ xs.length ≤ 1000000 ∧ (∀ x ∈ xs, ∃ t, Kind K H x t) ∧ Y xs) ∨ ∃ t, Kind K H v t ∧ (t == "list") = false ∧ N
/-- .. the list one of the heap -/
def AnyH (K : PySem.W.Frag) (H : Hp) (v : V) (Y : List V → Prop) (N : Prop) : Prop :=
  (∃ a xs, v = .ref a ∧ H a = some (.lst xs) ∧ xs.length ≤ 1000000 ∧ (∀ x ∈ xs, ∃ t, Kind K H x t) ∧ Y xs) ∨ ∃ t, Kind K H v t ∧ (t == "list") = false ∧ N
def octV (xs : List V) : Bool := xs.all fun x => btw x 0 255
def sp_are_octets (K : PySem.W.Frag) : Sp := fun vs H Q _ => ∃ v, vs = [v] ∧ AnyL K H v (fun xs => ∀ H', Same H H' → Q (.bl (octV xs)) H') (∀ H', Same H H' → Q (.bl false) H')
def sp_check_octets (K : PySem.W.Frag) (N : Addr) : Sp := fun vs H Q E => ∃ v, vs = [v] ∧ AnyL K H v (fun xs => ∀ H', Same H H' → if octV xs = true then Q .non H' else E (.ref N) none H') (∀ H', Same H H' → E (.ref N) none H')
def strOct (x : Str) (b m : Nat) : List Int := numOct x.length b m ++ x.cps.toList.map fun (c : Nat) => (c : Int)
def sp_value_octets : Sp := fun vs H Q _ => ∃ (x : Str), vs = [.str x] ∧ txt (.str x) 0 40 = true ∧ RetInts (strOct x 7 0) H Q
inductive Ins where
  | again (n : Nat) | limit (n : Nat) | fixed (n : Nat) (x : Str) | entry (n : Nat) (x : Str) | new (y x : Str)
def Ins.vs : Ins → List V
  | .again n => [.str "again", .int n]
  | .limit n => [.str "limit", .int n]
  | .fixed n x => [.str "fixed", .int n, .str x]
  | .entry n x => [.str "entry", .int n, .str x]
  | .new y x => [.str "new", .str y, .str x]
def Ins.Ok : Ins → Prop
  | .again n => n ≤ 9999
  | .limit n => n ≤ 9999
  | .fixed n x => n ≤ 9999 ∧ txt (.str x) 0 40 = true
  | .entry n x => n ≤ 9999 ∧ txt (.str x) 0 40 = true
  | .new y x => txt (.str y) 1 20 = true ∧ txt (.str x) 0 40 = true
def Ins.oct : Ins → List Int
  | .again n => numOct n 5 0
  | .limit n => numOct n 5 32
  | .fixed n x => numOct n 6 192 ++ strOct x 7 0
  | .entry n x => numOct n 6 128 ++ strOct x 7 0
  | .new y x => strOct y 5 64 ++ strOct x 7 0
/-- the value v is the instruction i -/
def InsV (K : PySem.W.Frag) (H : Hp) (v : V) (i : Ins) : Prop := ∃ a, v = .ref a ∧ SqT K H a i.vs
inductive Ans where
  | done (n : Nat) | cancelled (n : Nat) | received (n : Nat)
def Ans.vs : Ans → List V
  | .done n => [.str "done", .int n]
  | .cancelled n => [.str "cancelled", .int n]
  | .received n => [.str "received", .int n]
def Ans.Ok : Ans → Prop
  | .done n => n ≤ 20
  | .cancelled n => n ≤ 20
  | .received n => 1 ≤ n ∧ n ≤ 9999
def Ans.oct : Ans → List Int
  | .done n => numOct n 7 128
  | .cancelled n => numOct n 6 64
  | .received n => numOct n 6 0
def AnsV (K : PySem.W.Frag) (H : Hp) (v : V) (i : Ans) : Prop := ∃ a, v = .ref a ∧ SqT K H a i.vs
/-! ### reading -/
def takeSrc (os : List Int) (k : Nat) : Except Nat ((Str ⊕ Bool × Nat) × Nat) :=
  match os[k]? with
  | none => .error k
  | some o => if 192 ≤ o then (takeNum os 6 192 0 9999 k).map fun z => (.inr (true, z.1.toNat), z.2)
    else if 128 ≤ o then (takeNum os 6 128 0 9999 k).map fun z => (.inr (false, z.1.toNat), z.2)
    else (takeStr os 5 64 1 20 k).map fun z => (.inl z.1, z.2)
def srcIns (x : Str) : Str ⊕ Bool × Nat → Ins
  | .inl y => .new y x
  | .inr (true, n) => .fixed n x
  | .inr (false, n) => .entry n x
def takeIns (os : List Int) (k : Nat) : Except Nat (Ins × Nat) :=
  match os[k]? with
  | none => .error k
  | some o => if o < 32 then (takeNum os 5 0 0 9999 k).map fun z => (.again z.1.toNat, z.2)
    else if o < 64 then (takeNum os 5 32 0 9999 k).map fun z => (.limit z.1.toNat, z.2)
    else match takeSrc os k with
      | .error e => .error e
      | .ok (s, k1) => (takeStr os 7 0 0 40 k1).map fun z => (srcIns z.1 s, z.2)
def takeAns (os : List Int) (k : Nat) : Except Nat (Ans × Nat) :=
  match os[k]? with
  | none => .error k
  | some o => if 128 ≤ o then (takeNum os 7 128 0 20 k).map fun z => (.done z.1.toNat, z.2)
    else if 64 ≤ o then (takeNum os 6 64 0 20 k).map fun z => (.cancelled z.1.toNat, z.2)
    else (takeNum os 6 0 1 9999 k).map fun z => (.received z.1.toNat, z.2)
/-- read to the end -/
def whole {α : Type} (os : List Int) (f : List Int → Nat → Except Nat (α × Nat)) : Except Nat α :=
  match f os 0 with
  | .error e => .error e
  | .ok (x, k) => if k = os.length then .ok x else .error k
def srcVs : Str ⊕ Bool × Nat → List V
  | .inl y => [.str "new", .str y]
  | .inr (true, n) => [.str "fixed", .int n]
  | .inr (false, n) => [.str "entry", .int n]
def rSrc (K : PySem.W.Frag) : Str ⊕ Bool × Nat → V → Hp → Prop := fun s v H => ∃ a, v = .ref a ∧ SqT K H a (srcVs s)
def rIns (K : PySem.W.Frag) : Ins → V → Hp → Prop := fun i v H => InsV K H v i
def rAns (K : PySem.W.Frag) : Ans → V → Hp → Prop := fun i v H => AnsV K H v i
def sp_take (K : PySem.W.Frag) (C N : Addr) {α : Type} (f : List Int → Nat → Except Nat (α × Nat)) (R : α → V → Hp → Prop) : Sp := fun vs H Q E => ∃ (r a : Addr) (os : List Int) (k : Nat), vs = [.ref r] ∧ Rd K C H r a os k ∧ RdRes K C N r a os H Q E R (f os k)
def RdEnd {α : Type} (N : Addr) (H : Hp) (Q : VK) (E : XK) (R : α → V → Hp → Prop) : Except Nat α → Prop
  | .ok x => ∀ v H', Same H H' → R x v H' → Q v H'
  | .error e => ∀ (d : Addr) H', Same H H' → H' d = some (.xd [("place", .int (e : Nat))]) → E (.ref N) (some d) H'
def sp_read (K : PySem.W.Frag) (N M : Addr) {α : Type} (f : List Int → Nat → Except Nat (α × Nat)) (R : α → V → Hp → Prop) : Sp := fun vs H Q E => ∃ v, vs = [v] ∧ AnyH K H v
  (fun xs => if octV xs = true then ∃ os : List Int, xs = os.map V.int ∧ RdEnd N H Q E R (whole os f)
   else ∀ H', Same H H' → E (.ref M) none H') (∀ H', Same H H' → E (.ref M) none H')
def sp_is_ins (K : PySem.W.Frag) : Sp := fun vs H Q _ => ∃ (v : V) (i : Ins), vs = [v] ∧ InsV K H v i ∧ i.Ok ∧ ∀ H', Same H H' → Q (.bl true) H'
def sp_write_ins (K : PySem.W.Frag) : Sp := fun vs H Q _ => ∃ (v : V) (i : Ins), vs = [v] ∧ InsV K H v i ∧ i.Ok ∧ RetInts i.oct H Q
def sp_law_ins (K : PySem.W.Frag) : Sp := sp_write_ins K
def sp_is_ans (K : PySem.W.Frag) : Sp := fun vs H Q _ => ∃ (v : V) (i : Ans), vs = [v] ∧ AnsV K H v i ∧ i.Ok ∧ ∀ H', Same H H' → Q (.bl true) H'
def sp_write_ans (K : PySem.W.Frag) : Sp := fun vs H Q _ => ∃ (v : V) (i : Ans), vs = [v] ∧ AnsV K H v i ∧ i.Ok ∧ RetInts i.oct H Q
theorem txt_len20 {x : Str} (h : txt (.str x) 1 20 = true) : 1 ≤ x.length ∧ x.length ≤ 20 := by
  have h' : (decide ((1 : Int) ≤ x.length) && decide ((x.length : Int) ≤ 20) && x.cps.toList.all isChar) = true := h
  rw [Bool.and_eq_true, Bool.and_eq_true] at h'
  have h1 := of_decide_eq_true h'.1.1
  have h2 := of_decide_eq_true h'.1.2
  omega
theorem txt_20 {x : Str} (h : txt (.str x) 1 20 = true) : txt (.str x) 0 40 = true := by
  have := txt_len20 h
  exact txt_of (by omega) (by omega) (txt_all h)
def sp_source_octets : Sp := fun vs H Q _ => ∃ (c : Str) (v : V) (os : List Int), vs = [.str c, v] ∧
  ((∃ n : Nat, c = "fixed" ∧ v = .int n ∧ n ≤ 9999 ∧ os = numOct n 6 192) ∨ (∃ n : Nat, c = "entry" ∧ v = .int n ∧ n ≤ 9999 ∧ os = numOct n 6 128) ∨ ∃ y : Str, c = "new" ∧ v = .str y ∧ txt (.str y) 1 20 = true ∧ os = strOct y 5 64) ∧ RetInts os H Q
theorem RetInts.pre {ns : List Int} {H H1 : Hp} {Q : VK} (s : Same H H1) (h : RetInts ns H Q) : RetInts ns H1 Q := fun p H' hp s2 e => h p H' (s.free hp) (s.trans s2) e
theorem cat_go {a b : List Int} {H H3 : Hp} {Q : VK} {p1 p2 : Addr} (q : RetInts (a ++ b) H Q) (s : Same H H3) (g1 : H3 p1 = some (.lst (a.map V.int))) (g2 : H3 p2 = some (.lst (b.map V.int))) (hl : a.length + b.length ≤ 1000000) : rCat (.ref p1) (.ref p2) H3 Q := by
  refine ⟨p1, p2, _, _, rfl, rfl, g1, g2, by rw [List.length_map, List.length_map, sizeLine_eq]; omega, fun r hr => ?_⟩
  refine q r _ (s.free hr) (s.put (s.free hr)) ?_
  rw [upd_same, List.map_append]
theorem mark0 {b : Nat} (h1 : 1 ≤ b) (h8 : b ≤ 8) : MarkOk b 0 := by
  refine ⟨h1, h8, by decide, ?_⟩
  have : b = 1 ∨ b = 2 ∨ b = 3 ∨ b = 4 ∨ b = 5 ∨ b = 6 ∨ b = 7 ∨ b = 8 := by omega
  rcases this with h | h | h | h | h | h | h | h <;> subst h <;> decide +kernel
theorem strOct_len {x : Str} {b m : Nat} (h : x.length ≤ 40) : (strOct x b m).length ≤ 100 := by
  unfold strOct
  have := numOct_len x.length b m
  rw [List.length_append, List.length_map, ← str_len]
  omega
/-- from a call's result to what is made of it -/
theorem res_map {α β : Type} {K : PySem.W.Frag} {C N r a : Addr} {os : List Int} {H : Hp} {Q Q' : VK} {E : XK} {Ra : α → V → Hp → Prop} {Rb : β → V → Hp → Prop} {x : Except Nat (α × Nat)} {f : α × Nat → β × Nat}
    (q : RdRes K C N r a os H Q E Rb (x.map f)) (hf : ∀ z, (f z).2 = z.2) (h : ∀ z v H1, x = .ok z → But r H H1 → Rd K C H1 r a os z.2 → Ra z.1 v H1 → (∀ v' H2, Same H1 H2 → Rb (f z).1 v' H2 → Q v' H2) → Q' v H1) : RdRes K C N r a os H Q' E Ra x := by
  cases x with
  | error e => exact q
  | ok z =>
    intro v H1 b1 R1 hv
    refine h z v H1 rfl b1 R1 hv fun v' H2 s2 hv' => q v' H2 (b1.trans (But.of s2)) ?_ hv'
    rw [hf z]
    exact R1.keep s2
theorem oct_list {xs : List V} (h : octV xs = true) : ∃ os : List Int, xs = os.map V.int ∧ ∀ o ∈ os, 0 ≤ o ∧ o < 256 := by
  induction xs with
  | nil => exact ⟨[], rfl, fun o ho => nomatch ho⟩
  | cons x xs ih =>
    have h' : (btw x 0 255 && octV xs) = true := h
    rw [Bool.and_eq_true] at h'
    obtain ⟨os, e, ho⟩ := ih h'.2
    cases x with
    | int i =>
      have h2 : (decide ((0 : Int) ≤ i) && decide (i ≤ 255)) = true := h'.1
      rw [Bool.and_eq_true] at h2
      have h3 := of_decide_eq_true h2.1
      have h4 := of_decide_eq_true h2.2
      refine ⟨i :: os, by rw [e]; rfl, fun o hm => ?_⟩
      rcases List.mem_cons.mp hm with z | z
      · subst z; omega
      · exact ho o z
    | _ => exact nomatch (show false = true from h'.1)
theorem same_but {r : Addr} {H H1 H2 : Hp} (hr : H r = none) (s : Same H H1) (b : But r H1 H2) : Same H H2 := fun c o e => b c o (ne_of_none e hr) (s c o e)
end Fld
namespace Fld
open PySem PySem.Spec PyProof.Rows L2
def sp_law_draw_ins : Sp := fun vs H Q _ => ∃ (p c : Addr) (n : Nat), vs = [.ref p] ∧ Pen H p c n ∧ n ≤ 700000 ∧ ∀ (a : Addr) (i : Ins) H', H' a = some (.tup i.vs) → i.Ok → Drew p c H H' (n + 200) → Q (.ref a) H'
def sp_law_draw_ans : Sp := fun vs H Q _ => ∃ (p c : Addr) (n : Nat), vs = [.ref p] ∧ Pen H p c n ∧ n ≤ 700000 ∧ ∀ (a : Addr) (i : Ans) H', H' a = some (.tup i.vs) → i.Ok → Drew p c H H' (n + 200) → Q (.ref a) H'
/-! ### what is written is read again -/
theorem takeRest_oct (most : Int) : ∀ (r : Nat) (l : List Int) (k : Nat) (z w : Int), 1 ≤ w → 0 ≤ z → z + (r : Int) * w ≤ most → (0 < r ∨ w = 1) → takeRest most (restOct r ++ l) k z w = .ok (z + (r : Int) * w, k + (restOct r).length) := by
  intro r
  induction r using Nat.strongRecOn with
  | _ r ih =>
    intro l k z w hw hz hm h0
    by_cases h : r < 128
    · rw [restOct_lt h]
      show takeRest most ((r : Int) :: l) k z w = _
      rw [takeRest, if_neg (by omega), if_pos ⟨hm, by omega⟩]
      rfl
    · rw [restOct_ge h]
      show takeRest most ((128 + (r : Int) % 128) :: (restOct (r / 128) ++ l)) k z w = _
      have e0 : (128 + (r : Int) % 128 - 128) * w = ((r : Int) % 128) * w := by rw [show 128 + (r : Int) % 128 - 128 = (r : Int) % 128 by omega]
      have e1 : (r : Int) = ((r : Int) % 128) + 128 * ((r / 128 : Nat) : Int) := by omega
      have e2 : (r : Int) * w = ((r : Int) % 128) * w + ((r / 128 : Nat) : Int) * (w * 128) := by
        conv => lhs; rw [e1]
        rw [Int.add_mul, Int.mul_comm 128, Int.mul_assoc, Int.mul_comm 128 w]
      have p1 : 0 ≤ ((r : Int) % 128) * w := Int.mul_nonneg (by omega) (by omega)
      have q1 : 1 ≤ r / 128 := by omega
      have p2 : (w * 128) ≤ ((r / 128 : Nat) : Int) * (w * 128) := by
        have := Int.mul_le_mul_of_nonneg_right (show (1 : Int) ≤ ((r / 128 : Nat) : Int) by omega) (show 0 ≤ w * 128 by omega)
        omega
      rw [takeRest, if_pos (by omega), if_pos (by rw [e0]; omega), e0]
      rw [ih (r / 128) (by omega) l (k + 1) _ _ (by omega) (by omega) (by omega) (.inl (by omega))]
      rw [List.length_cons]
      refine congrArg Except.ok (Prod.ext ?_ ?_)
      · show z + ((r : Int) % 128) * w + ((r / 128 : Nat) : Int) * (w * 128) = z + (r : Int) * w
        rw [e2]; omega
      · show k + 1 + (restOct (r / 128)).length = k + ((restOct (r / 128)).length + 1)
        omega
theorem takeNum_oct (n b m : Nat) (least most : Int) (pre l : List Int) (h1 : least ≤ n) (h2 : (n : Int) ≤ most) (hl : 0 ≤ least) : least ≤ min ((2 ^ b - 1 : Nat) : Int) most →
    takeNum (pre ++ (numOct n b m ++ l)) b m least most pre.length = .ok ((n : Int), pre.length + (numOct n b m).length) := by
  intro hlm
  unfold takeNum numOct
  by_cases h : n < 2 ^ b - 1
  · rw [if_pos h]
    rw [List.getElem?_append_right (Nat.le_refl _), Nat.sub_self]
    show (if _ then _ else _) = _
    have e : ((m + n : Nat) : Int) - (m : Int) = (n : Int) := by omega
    dsimp only [List.cons_append, List.getElem?_cons_zero]
    rw [e, if_pos ⟨h1, by omega⟩, if_pos (by omega)]
    rfl
  · rw [if_neg h]
    rw [List.getElem?_append_right (Nat.le_refl _), Nat.sub_self]
    dsimp only [List.cons_append, List.getElem?_cons_zero]
    have e : ((m + (2 ^ b - 1) : Nat) : Int) - (m : Int) = ((2 ^ b - 1 : Nat) : Int) := by omega
    rw [e, if_pos ⟨by omega, by omega⟩, if_neg (by omega)]
    have hd : (pre ++ ((m + (2 ^ b - 1) : Nat) : Int) :: (restOct (n - (2 ^ b - 1)) ++ l)).drop (pre.length + 1) = restOct (n - (2 ^ b - 1)) ++ l := by
      rw [List.drop_append]
      simp
    rw [hd, takeRest_oct _ _ _ _ _ _ (by decide) (by decide) (by omega) (.inr rfl)]
    have hpn := pow_pos2 b
    refine congrArg Except.ok (Prod.ext ?_ ?_)
    · show ((2 ^ b - 1 : Nat) : Int) + (0 + ((n - (2 ^ b - 1) : Nat) : Int) * 1) = (n : Int)
      omega
    · show pre.length + 1 + (restOct (n - (2 ^ b - 1))).length = pre.length + ((restOct (n - (2 ^ b - 1))).length + 1)
      omega
theorem takeChars_oct : ∀ (cs : List Nat) (l : List Int) (k : Nat), cs.all isChar = true → takeChars cs.length ((cs.map fun (c : Nat) => (c : Int)) ++ l) k = .ok (cs, k + cs.length)
  | [], l, k, _ => rfl
  | c :: cs, l, k, h => by
    rw [List.all_cons, Bool.and_eq_true] at h
    show takeChars (cs.length + 1) ((c : Int) :: (cs.map (fun (c : Nat) => (c : Int)) ++ l)) k = _
    rw [takeChars, Int.toNat_natCast, if_pos h.1, takeChars_oct cs l (k + 1) h.2]
    refine congrArg Except.ok (Prod.ext rfl ?_)
    show k + 1 + cs.length = k + (cs.length + 1)
    omega
theorem takeStr_oct (x : Str) (b m : Nat) (least most : Int) (pre l : List Int) (hx : x.cps.toList.all isChar = true) (h1 : least ≤ x.length) (h2 : (x.length : Int) ≤ most) (hl : 0 ≤ least) (hlm : least ≤ min ((2 ^ b - 1 : Nat) : Int) most) :
    takeStr (pre ++ (strOct x b m ++ l)) b m least most pre.length = .ok (x, pre.length + (strOct x b m).length) := by
  unfold takeStr strOct
  rw [List.append_assoc, takeNum_oct x.length b m least most pre _ h1 h2 hl hlm]
  dsimp only
  rw [Int.toNat_natCast]
  have hd : (pre ++ (numOct x.length b m ++ (x.cps.toList.map (fun (c : Nat) => (c : Int)) ++ l))).drop (pre.length + (numOct x.length b m).length) = x.cps.toList.map (fun (c : Nat) => (c : Int)) ++ l := by
    rw [← List.append_assoc, List.drop_append, ← List.length_append]
    simp
  rw [hd, str_len, takeChars_oct _ _ _ hx]
  refine congrArg Except.ok (Prod.ext rfl ?_)
  show pre.length + (numOct x.length b m).length + x.cps.toList.length = pre.length + (numOct x.length b m ++ x.cps.toList.map fun (c : Nat) => (c : Int)).length
  rw [List.length_append, List.length_map]
  omega
theorem numOct_head (n b m : Nat) : ∃ (o : Int) (l : List Int), numOct n b m = o :: l ∧ (m : Int) ≤ o ∧ o ≤ m + ((2 ^ b - 1 : Nat) : Int) := by
  unfold numOct
  have := pow_pos2 b
  by_cases h : n < 2 ^ b - 1
  · rw [if_pos h]; exact ⟨_, _, rfl, by omega, by omega⟩
  · rw [if_neg h]; exact ⟨_, _, rfl, by omega, by omega⟩
theorem strOct_head (x : Str) (b m : Nat) : ∃ (o : Int) (l : List Int), strOct x b m = o :: l ∧ (m : Int) ≤ o ∧ o ≤ m + ((2 ^ b - 1 : Nat) : Int) := by
  obtain ⟨o, l, e, h⟩ := numOct_head x.length b m
  refine ⟨o, l ++ x.cps.toList.map fun (c : Nat) => (c : Int), ?_, h⟩
  unfold strOct
  rw [e]
  rfl
theorem takeNum0 (n b m : Nat) (least most : Int) (l : List Int) (h1 : least ≤ n) (h2 : (n : Int) ≤ most) (hl : 0 ≤ least) (hlm : least ≤ min ((2 ^ b - 1 : Nat) : Int) most) : takeNum (numOct n b m ++ l) b m least most 0 = .ok ((n : Int), (numOct n b m).length) := by
  have := takeNum_oct n b m least most [] l h1 h2 hl hlm
  rw [List.nil_append, List.length_nil, Nat.zero_add] at this
  exact this
theorem takeStr0 (x : Str) (b m : Nat) (least most : Int) (l : List Int) (hx : x.cps.toList.all isChar = true) (h1 : least ≤ x.length) (h2 : (x.length : Int) ≤ most) (hl : 0 ≤ least) (hlm : least ≤ min ((2 ^ b - 1 : Nat) : Int) most) : takeStr (strOct x b m ++ l) b m least most 0 = .ok (x, (strOct x b m).length) := by
  have := takeStr_oct x b m least most [] l hx h1 h2 hl hlm
  rw [List.nil_append, List.length_nil, Nat.zero_add] at this
  exact this
theorem takeStrE (x : Str) (pre : List Int) (hx : txt (.str x) 0 40 = true) : takeStr (pre ++ strOct x 7 0) 7 0 0 40 pre.length = .ok (x, (pre ++ strOct x 7 0).length) := by
  have h40 := txt_len hx
  have := takeStr_oct x 7 0 0 40 pre [] (txt_all hx) (by omega) (by omega) (by decide) (by decide)
  rw [List.append_nil] at this
  rw [this, List.length_append]
theorem src_fixed (n : Nat) (l : List Int) (h : n ≤ 9999) : takeSrc (numOct n 6 192 ++ l) 0 = .ok (.inr (true, n), (numOct n 6 192).length) := by
  obtain ⟨o, l', e, h1, h2⟩ := numOct_head n 6 192
  have h0 : (numOct n 6 192 ++ l)[0]? = some o := by rw [e]; rfl
  unfold takeSrc
  rw [h0]
  dsimp only
  rw [if_pos (by omega), takeNum0 n 6 192 0 9999 l (by omega) (by omega) (by decide) (by decide)]
  show Except.ok (Sum.inr (true, ((n : Nat) : Int).toNat), _) = _
  rw [Int.toNat_natCast]
theorem src_entry (n : Nat) (l : List Int) (h : n ≤ 9999) : takeSrc (numOct n 6 128 ++ l) 0 = .ok (.inr (false, n), (numOct n 6 128).length) := by
  obtain ⟨o, l', e, h1, h2⟩ := numOct_head n 6 128
  have h3 : ((2 ^ 6 - 1 : Nat) : Int) = 63 := rfl
  have h0 : (numOct n 6 128 ++ l)[0]? = some o := by rw [e]; rfl
  unfold takeSrc
  rw [h0]
  dsimp only
  rw [if_neg (by omega), if_pos (by omega), takeNum0 n 6 128 0 9999 l (by omega) (by omega) (by decide) (by decide)]
  show Except.ok (Sum.inr (false, ((n : Nat) : Int).toNat), _) = _
  rw [Int.toNat_natCast]
theorem src_new (y : Str) (l : List Int) (h : txt (.str y) 1 20 = true) : takeSrc (strOct y 5 64 ++ l) 0 = .ok (.inl y, (strOct y 5 64).length) := by
  obtain ⟨o, l', e, h1, h2⟩ := strOct_head y 5 64
  have h3 : ((2 ^ 5 - 1 : Nat) : Int) = 31 := rfl
  have h20 := txt_len20 h
  have h0 : (strOct y 5 64 ++ l)[0]? = some o := by rw [e]; rfl
  unfold takeSrc
  rw [h0]
  dsimp only
  rw [if_neg (by omega), if_neg (by omega), takeStr0 y 5 64 1 20 l (txt_all h) (by omega) (by omega) (by decide) (by decide)]
  rfl
theorem ins_src (os : List Int) (k : Nat) (s : Str ⊕ Bool × Nat) (x : Str) (n : Nat) (o : Int) (h0 : os[0]? = some o) (ho : 64 ≤ o) (h1 : takeSrc os 0 = .ok (s, k)) (h2 : takeStr os 7 0 0 40 k = .ok (x, n)) : takeIns os 0 = .ok (srcIns x s, n) := by
  unfold takeIns
  rw [h0]
  dsimp only
  rw [if_neg (by omega), if_neg (by omega), h1]
  dsimp only
  rw [h2]
  rfl
theorem whole_of {α : Type} {os : List Int} {f : List Int → Nat → Except Nat (α × Nat)} {x : α} (h : f os 0 = .ok (x, os.length)) : whole os f = .ok x := by
  unfold whole
  rw [h]
  exact if_pos rfl
theorem whole_ins (i : Ins) (ok : i.Ok) : whole i.oct takeIns = .ok i := by
  refine whole_of ?_
  cases i with
  | again n =>
    have hn : n ≤ 9999 := ok
    obtain ⟨o, l', e, h1, h2⟩ := numOct_head n 5 0
    have h3 : ((2 ^ 5 - 1 : Nat) : Int) = 31 := rfl
    have h0 : (numOct n 5 0)[0]? = some o := by rw [e]; rfl
    have ht := takeNum0 n 5 0 0 9999 [] (by omega) (by omega) (by decide) (by decide)
    rw [List.append_nil] at ht
    show takeIns (numOct n 5 0) 0 = _
    unfold takeIns
    rw [h0]
    dsimp only
    rw [if_pos (by omega), ht]
    show Except.ok (Ins.again ((n : Nat) : Int).toNat, _) = _
    rw [Int.toNat_natCast]
    rfl
  | limit n =>
    have hn : n ≤ 9999 := ok
    obtain ⟨o, l', e, h1, h2⟩ := numOct_head n 5 32
    have h3 : ((2 ^ 5 - 1 : Nat) : Int) = 31 := rfl
    have h0 : (numOct n 5 32)[0]? = some o := by rw [e]; rfl
    have ht := takeNum0 n 5 32 0 9999 [] (by omega) (by omega) (by decide) (by decide)
    rw [List.append_nil] at ht
    show takeIns (numOct n 5 32) 0 = _
    unfold takeIns
    rw [h0]
    dsimp only
    rw [if_neg (by omega), if_pos (by omega), ht]
    show Except.ok (Ins.limit ((n : Nat) : Int).toNat, _) = _
    rw [Int.toNat_natCast]
    rfl
  | fixed n x =>
    obtain ⟨o, l', e, h1, h2⟩ := numOct_head n 6 192
    exact ins_src _ _ (.inr (true, n)) x _ o (by show (numOct n 6 192 ++ strOct x 7 0)[0]? = _; rw [e]; rfl) (by omega) (src_fixed n _ ok.1) (takeStrE x _ ok.2)
  | entry n x =>
    obtain ⟨o, l', e, h1, h2⟩ := numOct_head n 6 128
    exact ins_src _ _ (.inr (false, n)) x _ o (by show (numOct n 6 128 ++ strOct x 7 0)[0]? = _; rw [e]; rfl) (by omega) (src_entry n _ ok.1) (takeStrE x _ ok.2)
  | new y x =>
    obtain ⟨o, l', e, h1, h2⟩ := strOct_head y 5 64
    exact ins_src _ _ (.inl y) x _ o (by show (strOct y 5 64 ++ strOct x 7 0)[0]? = _; rw [e]; rfl) (by omega) (src_new y _ ok.1) (takeStrE x _ ok.2)
theorem whole_ans (i : Ans) (ok : i.Ok) : whole i.oct takeAns = .ok i := by
  refine whole_of ?_
  have h63 : ((2 ^ 6 - 1 : Nat) : Int) = 63 := rfl
  have h127 : ((2 ^ 7 - 1 : Nat) : Int) = 127 := rfl
  cases i with
  | done n =>
    have hn : n ≤ 20 := ok
    obtain ⟨o, l', e, h1, h2⟩ := numOct_head n 7 128
    have h0 : (numOct n 7 128)[0]? = some o := by rw [e]; rfl
    have ht := takeNum0 n 7 128 0 20 [] (by omega) (by omega) (by decide) (by decide)
    rw [List.append_nil] at ht
    show takeAns (numOct n 7 128) 0 = _
    unfold takeAns
    rw [h0]
    dsimp only
    rw [if_pos (by omega), ht]
    show Except.ok (Ans.done ((n : Nat) : Int).toNat, _) = _
    rw [Int.toNat_natCast]
    rfl
  | cancelled n =>
    have hn : n ≤ 20 := ok
    obtain ⟨o, l', e, h1, h2⟩ := numOct_head n 6 64
    have h0 : (numOct n 6 64)[0]? = some o := by rw [e]; rfl
    have ht := takeNum0 n 6 64 0 20 [] (by omega) (by omega) (by decide) (by decide)
    rw [List.append_nil] at ht
    show takeAns (numOct n 6 64) 0 = _
    unfold takeAns
    rw [h0]
    dsimp only
    rw [if_neg (by omega), if_pos (by omega), ht]
    show Except.ok (Ans.cancelled ((n : Nat) : Int).toNat, _) = _
    rw [Int.toNat_natCast]
    rfl
  | received n =>
    have hn := ok.1
    have hn2 := ok.2
    obtain ⟨o, l', e, h1, h2⟩ := numOct_head n 6 0
    have h0 : (numOct n 6 0)[0]? = some o := by rw [e]; rfl
    have ht := takeNum0 n 6 0 1 9999 [] (by omega) (by omega) (by decide) (by decide)
    rw [List.append_nil] at ht
    show takeAns (numOct n 6 0) 0 = _
    unfold takeAns
    rw [h0]
    dsimp only
    rw [if_neg (by omega), if_neg (by omega), ht]
    show Except.ok (Ans.received ((n : Nat) : Int).toNat, _) = _
    rw [Int.toNat_natCast]
    rfl
end Fld
/-! instructions and answers as data -/
namespace Fld
open PySem PySem.Spec PyProof.Rows L2
def Ins.dat : Ins → PyData
  | .again n => .tuple [.str "again", .int n]
  | .limit n => .tuple [.str "limit", .int n]
  | .fixed n x => .tuple [.str "fixed", .int n, .str x]
  | .entry n x => .tuple [.str "entry", .int n, .str x]
  | .new y x => .tuple [.str "new", .str y, .str x]
def Ans.dat : Ans → PyData
  | .done n => .tuple [.str "done", .int n]
  | .cancelled n => .tuple [.str "cancelled", .int n]
  | .received n => .tuple [.str "received", .int n]
theorem dp_ins {K : PySem.W.Frag} {H : Hp} {a : Addr} {i : Ins} (h : SqT K H a i.vs) : Dp K H (.ref a) i.dat := by
  cases i with
  | new y x => exact .tup h (.cons (.str _) (.cons (.str _) (.cons (.str _) .nil)))
  | fixed n x => exact .tup h (.cons (.str _) (.cons (.int _) (.cons (.str _) .nil)))
  | entry n x => exact .tup h (.cons (.str _) (.cons (.int _) (.cons (.str _) .nil)))
  | _ => exact .tup h (.cons (.str _) (.cons (.int _) .nil))
theorem dp_ans {K : PySem.W.Frag} {H : Hp} {a : Addr} {i : Ans} (h : SqT K H a i.vs) : Dp K H (.ref a) i.dat := by
  cases i <;> exact .tup h (.cons (.str _) (.cons (.int _) .nil))
theorem dle_flat {n : Nat} {ds : List PyData} (h : ds.length ≤ 100000) (hd : ∀ d ∈ ds, DLe n d) : DLe (n + 1) (.tuple ds) := ⟨h, hd⟩
theorem dle_str (n : Nat) (x : Str) : DLe n (.str x) := by cases n <;> exact True.intro
theorem dle_int (n : Nat) (i : Int) : DLe n (.int i) := by cases n <;> exact True.intro
theorem dle_2 {n : Nat} {a b : PyData} (ha : DLe n a) (hb : DLe n b) : DLe (n + 1) (.tuple [a, b]) := ⟨by show 2 ≤ 100000; decide, fun d hd => by
  rcases List.mem_cons.mp hd with h | h
  · rw [h]; exact ha
  · rw [List.mem_singleton.mp h]; exact hb⟩
theorem dle_3 {n : Nat} {a b c : PyData} (ha : DLe n a) (hb : DLe n b) (hc : DLe n c) : DLe (n + 1) (.tuple [a, b, c]) := ⟨by show 3 ≤ 100000; decide, fun d hd => by
  rcases List.mem_cons.mp hd with h | h
  · rw [h]; exact ha
  rcases List.mem_cons.mp h with h | h
  · rw [h]; exact hb
  · rw [List.mem_singleton.mp h]; exact hc⟩
theorem dleL_2 {n : Nat} {a b : PyData} (ha : DLe n a) (hb : DLe n b) : DLe (n + 1) (.list [a, b]) := ⟨by show 2 ≤ 100000; decide, fun d hd => by
  rcases List.mem_cons.mp hd with h | h
  · rw [h]; exact ha
  · rw [List.mem_singleton.mp h]; exact hb⟩
theorem dle_ins (n : Nat) (i : Ins) : DLe (n + 1) i.dat := by
  cases i with
  | again k => exact dle_2 (dle_str _ _) (dle_int _ _)
  | limit k => exact dle_2 (dle_str _ _) (dle_int _ _)
  | fixed k x => exact dle_3 (dle_str _ _) (dle_int _ _) (dle_str _ _)
  | entry k x => exact dle_3 (dle_str _ _) (dle_int _ _) (dle_str _ _)
  | new y x => exact dle_3 (dle_str _ _) (dle_str _ _) (dle_str _ _)
theorem dle_ans (n : Nat) (i : Ans) : DLe (n + 1) i.dat := by
  cases i <;> exact dle_2 (dle_str _ _) (dle_int _ _)
theorem isChar_lt {c : Nat} (h : isChar c = true) : c < 4294967296 := by
  have h1 : (charCodes.all fun c => decide (c < 4294967296)) = true := by decide
  exact of_decide_eq_true (List.all_eq_true.mp h1 c (List.contains_iff_mem.mp h))
theorem okD_str {x : Str} (h : x.cps.toList.all isChar = true) : okD (.str x) = true := by
  show (x.cps.toList.all fun c => decide (c < 4294967296)) = true
  exact List.all_eq_true.mpr fun c hc => decide_eq_true (isChar_lt (List.all_eq_true.mp h c hc))
theorem okD_nat {n : Nat} (h : n ≤ 9999) : okD (.int (n : Nat)) = true := by
  have h3 : (1000001 : Nat) < 2 ^ 1000 := by decide +kernel
  refine decide_eq_true ?_
  rw [Int.natAbs_natCast]
  omega
theorem okD_ins {i : Ins} (ok : i.Ok) : okD i.dat = true ∧ wD i.dat ≤ 5000 := by
  cases i with
  | again n =>
    refine ⟨?_, by show 10 * 5 + 2 + 2 + (1010 + 2 + 0) + 4 ≤ 5000; decide⟩
    show (okD (.str "again") && (okD (.int (n : Nat)) && true)) = true
    rw [okD_nat ok]; decide +kernel
  | limit n =>
    refine ⟨?_, by show 10 * 5 + 2 + 2 + (1010 + 2 + 0) + 4 ≤ 5000; decide⟩
    show (okD (.str "limit") && (okD (.int (n : Nat)) && true)) = true
    rw [okD_nat ok]; decide +kernel
  | fixed n x =>
    have hx := txt_len ok.2
    refine ⟨?_, by show 10 * 5 + 2 + 2 + (1010 + 2 + (10 * x.length + 2 + 2 + 0)) + 4 ≤ 5000; omega⟩
    show (okD (.str "fixed") && (okD (.int (n : Nat)) && (okD (.str x) && true))) = true
    rw [okD_nat ok.1, okD_str (txt_all ok.2)]; decide +kernel
  | entry n x =>
    have hx := txt_len ok.2
    refine ⟨?_, by show 10 * 5 + 2 + 2 + (1010 + 2 + (10 * x.length + 2 + 2 + 0)) + 4 ≤ 5000; omega⟩
    show (okD (.str "entry") && (okD (.int (n : Nat)) && (okD (.str x) && true))) = true
    rw [okD_nat ok.1, okD_str (txt_all ok.2)]; decide +kernel
  | new y x =>
    have hx := txt_len ok.2
    have hy := txt_len20 ok.1
    refine ⟨?_, by show 10 * 3 + 2 + 2 + (10 * y.length + 2 + 2 + (10 * x.length + 2 + 2 + 0)) + 4 ≤ 5000; omega⟩
    show (okD (.str "new") && (okD (.str y) && (okD (.str x) && true))) = true
    rw [okD_str (txt_all ok.1), okD_str (txt_all ok.2)]; decide +kernel
theorem okD_ans {i : Ans} (ok : i.Ok) : okD i.dat = true ∧ wD i.dat ≤ 5000 := by
  cases i with
  | done n =>
    have h : n ≤ 20 := ok
    refine ⟨?_, by show 10 * 4 + 2 + 2 + (1010 + 2 + 0) + 4 ≤ 5000; decide⟩
    show (okD (.str "done") && (okD (.int (n : Nat)) && true)) = true
    rw [okD_nat (by omega)]; decide +kernel
  | cancelled n =>
    have h : n ≤ 20 := ok
    refine ⟨?_, by show 10 * 9 + 2 + 2 + (1010 + 2 + 0) + 4 ≤ 5000; decide⟩
    show (okD (.str "cancelled") && (okD (.int (n : Nat)) && true)) = true
    rw [okD_nat (by omega)]; decide +kernel
  | received n =>
    refine ⟨?_, by show 10 * 8 + 2 + 2 + (1010 + 2 + 0) + 4 ≤ 5000; decide⟩
    show (okD (.str "received") && (okD (.int (n : Nat)) && true)) = true
    rw [okD_nat ok.2]; decide +kernel
theorem ins_oct_len {i : Ins} (ok : i.Ok) : i.oct.length ≤ 100000 := by
  cases i with
  | again n => have h : n ≤ 9999 := ok; have := numOct_len n 5 0; show (numOct n 5 0).length ≤ _; omega
  | limit n => have h : n ≤ 9999 := ok; have := numOct_len n 5 32; show (numOct n 5 32).length ≤ _; omega
  | fixed n x => have h := ok.1; have := numOct_len n 6 192; have := strOct_len (b := 7) (m := 0) (txt_len ok.2); show (numOct n 6 192 ++ strOct x 7 0).length ≤ _; rw [List.length_append]; omega
  | entry n x => have h := ok.1; have := numOct_len n 6 128; have := strOct_len (b := 7) (m := 0) (txt_len ok.2); show (numOct n 6 128 ++ strOct x 7 0).length ≤ _; rw [List.length_append]; omega
  | new y x => have := strOct_len (b := 5) (m := 64) (txt_len (txt_20 ok.1)); have := strOct_len (b := 7) (m := 0) (txt_len ok.2); show (strOct y 5 64 ++ strOct x 7 0).length ≤ _; rw [List.length_append]; omega
theorem ans_oct_len {i : Ans} (ok : i.Ok) : i.oct.length ≤ 100000 := by
  cases i with
  | done n => have h : n ≤ 20 := ok; have := numOct_len n 7 128; show (numOct n 7 128).length ≤ _; omega
  | cancelled n => have h : n ≤ 20 := ok; have := numOct_len n 6 64; show (numOct n 6 64).length ≤ _; omega
  | received n => have h := ok.2; have := numOct_len n 6 0; show (numOct n 6 0).length ≤ _; omega
/-! ### all octets are octets -/
theorem restOct_oct (r : Nat) : ∀ o ∈ restOct r, 0 ≤ o ∧ o < 256 := by
  induction r using Nat.strongRecOn with
  | _ r ih =>
    intro o ho
    by_cases h : r < 128
    · rw [restOct_lt h] at ho
      have := List.mem_singleton.mp ho
      omega
    · rw [restOct_ge h] at ho
      rcases List.mem_cons.mp ho with z | z
      · omega
      · exact ih (r / 128) (by omega) o z
theorem numOct_oct {n b m : Nat} (h : m + (2 ^ b - 1) ≤ 255) : ∀ o ∈ numOct n b m, 0 ≤ o ∧ o < 256 := by
  intro o ho
  unfold numOct at ho
  by_cases h1 : n < 2 ^ b - 1
  · rw [if_pos h1] at ho
    have := List.mem_singleton.mp ho
    omega
  · rw [if_neg h1] at ho
    rcases List.mem_cons.mp ho with z | z
    · omega
    · exact restOct_oct _ o z
theorem strOct_oct {x : Str} {b m : Nat} (h : m + (2 ^ b - 1) ≤ 255) (hx : x.cps.toList.all isChar = true) : ∀ o ∈ strOct x b m, 0 ≤ o ∧ o < 256 := by
  intro o ho
  rcases List.mem_append.mp ho with z | z
  · exact numOct_oct h o z
  · obtain ⟨c, hc, rfl⟩ := List.mem_map.mp z
    have h1 : (charCodes.all fun c => decide (c < 256)) = true := by decide
    have := of_decide_eq_true (List.all_eq_true.mp h1 c (List.contains_iff_mem.mp (List.all_eq_true.mp hx c hc)))
    omega
theorem app_oct {a b : List Int} (h1 : ∀ o ∈ a, 0 ≤ o ∧ o < 256) (h2 : ∀ o ∈ b, 0 ≤ o ∧ o < 256) : ∀ o ∈ a ++ b, 0 ≤ o ∧ o < 256 := fun o ho => (List.mem_append.mp ho).elim (h1 o) (h2 o)
theorem ins_oct {i : Ins} (ok : i.Ok) : ∀ o ∈ i.oct, 0 ≤ o ∧ o < 256 := by
  cases i with
  | again n => exact numOct_oct (by decide)
  | limit n => exact numOct_oct (by decide)
  | fixed n x => exact app_oct (numOct_oct (by decide)) (strOct_oct (by decide) (txt_all ok.2))
  | entry n x => exact app_oct (numOct_oct (by decide)) (strOct_oct (by decide) (txt_all ok.2))
  | new y x => exact app_oct (strOct_oct (by decide) (txt_all ok.1)) (strOct_oct (by decide) (txt_all ok.2))
theorem ans_oct {i : Ans} (ok : i.Ok) : ∀ o ∈ i.oct, 0 ≤ o ∧ o < 256 := by
  cases i with
  | _ => exact numOct_oct (by decide)
theorem octV_of {os : List Int} (h : ∀ o ∈ os, 0 ≤ o ∧ o < 256) : octV (os.map V.int) = true := by
  refine List.all_eq_true.mpr fun v hv => ?_
  obtain ⟨o, ho, rfl⟩ := List.mem_map.mp hv
  have := h o ho
  exact btw_t (by omega) (by omega)
theorem kinds_ints {K : PySem.W.Frag} {H : Hp} (os : List Int) : ∀ x ∈ os.map V.int, ∃ t, Kind K H x t := fun x hx => by
  obtain ⟨o, _, rfl⟩ := List.mem_map.mp hx
  exact ⟨"int", .int o⟩
theorem read_in {α : Type} {N M : Addr} {f : List Int → Nat → Except Nat (α × Nat)} {R : α → V → Hp → Prop} {H : Hp} {Q : VK} {E : XK} {os : List Int} {x : α} (ho : ∀ o ∈ os, 0 ≤ o ∧ o < 256) (hw : whole os f = .ok x)
    (q : ∀ v H', Same H H' → R x v H' → Q v H') : if octV (os.map V.int) = true then ∃ os' : List Int, os.map V.int = os'.map V.int ∧ RdEnd N H Q E R (whole os' f) else ∀ H', Same H H' → E (.ref M) none H' := by
  rw [if_pos (octV_of ho)]
  refine ⟨os, rfl, ?_⟩
  rw [hw]
  exact q
end Fld
/-! values of any kind, dicts with int and text keys among them: their data, what isinstance, repr and == with a text say of them -/
namespace Fld
open PySem PySem.Spec PyProof.Rows L2
def ofK : Key → PyData
  | .inl i => .int i
  | .inr x => .str x
mutual
inductive Dv (K : PySem.W.Frag) (H : Hp) : V → PyData → Prop
  | non : Dv K H .non .none
  | bl (b : Bool) : Dv K H (.bl b) (.bool b)
  | int (i : Int) : Dv K H (.int i) (.int i)
  | str (x : Str) : Dv K H (.str x) (.str x)
  | lst {a : Addr} {xs : List V} {ds : List PyData} : SqL K H a xs → DvAll K H xs ds → Dv K H (.ref a) (.list ds)
  | tup {a : Addr} {xs : List V} {ds : List PyData} : SqT K H a xs → DvAll K H xs ds → Dv K H (.ref a) (.tuple ds)
  | dic {a : Addr} {kvs : List (Key × V)} {ps : List (PyData × PyData)} : H a = some (.dK kvs) → kvs.map (fun p => ofK p.1) = ps.map (·.1) → DvAll K H (kvs.map (·.2)) (ps.map (·.2)) → Dv K H (.ref a) (.dict ps)
inductive DvAll (K : PySem.W.Frag) (H : Hp) : List V → List PyData → Prop
  | nil : DvAll K H [] []
  | cons {v : V} {vs : List V} {d : PyData} {ds : List PyData} : Dv K H v d → DvAll K H vs ds → DvAll K H (v :: vs) (d :: ds)
end
mutual
theorem Dv.keep {K : PySem.W.Frag} {H H' : Hp} (s : Same H H') : ∀ {v : V} {d : PyData}, Dv K H v d → Dv K H' v d
  | _, _, .non => .non
  | _, _, .bl b => .bl b
  | _, _, .int i => .int i
  | _, _, .str x => .str x
  | _, _, .lst h a => .lst (s.seq h) (DvAll.keep s a)
  | _, _, .tup h a => .tup (s.tup h) (DvAll.keep s a)
  | _, _, .dic h e a => .dic (s _ _ h) e (DvAll.keep s a)
theorem DvAll.keep {K : PySem.W.Frag} {H H' : Hp} (s : Same H H') : ∀ {vs : List V} {ds : List PyData}, DvAll K H vs ds → DvAll K H' vs ds
  | _, _, .nil => .nil
  | _, _, .cons h t => .cons (Dv.keep s h) (DvAll.keep s t)
end
mutual
theorem Dv.ofDp {K : PySem.W.Frag} {H : Hp} : ∀ {v : V} {d : PyData}, Dp K H v d → Dv K H v d
  | _, _, .non => .non
  | _, _, .bl b => .bl b
  | _, _, .int i => .int i
  | _, _, .str x => .str x
  | _, _, .lst h a => .lst h (DvAll.ofDp a)
  | _, _, .tup h a => .tup h (DvAll.ofDp a)
theorem DvAll.ofDp {K : PySem.W.Frag} {H : Hp} : ∀ {vs : List V} {ds : List PyData}, DpAll K H vs ds → DvAll K H vs ds
  | _, _, .nil => .nil
  | _, _, .cons h t => .cons (Dv.ofDp h) (DvAll.ofDp t)
end
/-! no dict within -/
mutual
def noDict : PyData → Bool
  | .list xs => noDictAll xs
  | .tuple xs => noDictAll xs
  | .dict _ => false
  | _ => true
def noDictAll : List PyData → Bool
  | [] => true
  | x :: xs => noDict x && noDictAll xs
end
mutual
theorem Dv.dp {K : PySem.W.Frag} {H : Hp} : ∀ {v : V} {d : PyData}, Dv K H v d → noDict d = true → Dp K H v d
  | _, _, .non, _ => .non
  | _, _, .bl b, _ => .bl b
  | _, _, .int i, _ => .int i
  | _, _, .str x, _ => .str x
  | _, _, .lst h a, n => .lst h (DvAll.dp a (by simpa [noDict] using n))
  | _, _, .tup h a, n => .tup h (DvAll.dp a (by simpa [noDict] using n))
  | _, _, .dic h e a, n => by simp [noDict] at n
theorem DvAll.dp {K : PySem.W.Frag} {H : Hp} : ∀ {vs : List V} {ds : List PyData}, DvAll K H vs ds → noDictAll ds = true → DpAll K H vs ds
  | _, _, .nil, _ => .nil
  | _, _, .cons h t, n => by
    rw [noDictAll, Bool.and_eq_true] at n
    exact .cons (Dv.dp h n.1) (DvAll.dp t n.2)
end
def tyD : PyData → String
  | .none => "NoneType"
  | .bool _ => "bool"
  | .int _ => "int"
  | .str _ => "str"
  | .list _ => "list"
  | .tuple _ => "tuple"
  | .dict _ => "dict"
theorem Dv.kind {K : PySem.W.Frag} {H : Hp} {v : V} {d : PyData} (h : Dv K H v d) : Kind K H v (tyD d) := by
  cases h with
  | non => exact .non
  | bl b => exact .bl b
  | int i => exact .int i
  | str x => exact .str x
  | lst h a => exact .lst h
  | tup h a => exact .tup h
  | dic h e a => exact .dK h
theorem DvAll.len {K : PySem.W.Frag} {H : Hp} : ∀ {xs : List V} {ds : List PyData}, DvAll K H xs ds → xs.length = ds.length
  | _, _, .nil => rfl
  | _, _, .cons _ t => by rw [List.length_cons, List.length_cons, DvAll.len t]
theorem DvAll.at {K : PySem.W.Frag} {H : Hp} : ∀ {xs : List V} {ds : List PyData} {i : Nat} {x : V}, DvAll K H xs ds → xs[i]? = some x → ∃ d, ds[i]? = some d ∧ Dv K H x d
  | _, _, _, _, .nil, e => by simp at e
  | _, _, 0, _, .cons h _, e => by simp at e; subst e; exact ⟨_, rfl, h⟩
  | _, _, i + 1, x, .cons _ t, e => by
    obtain ⟨d, h1, h2⟩ := DvAll.at (i := i) (x := x) t (by simpa using e)
    exact ⟨d, by simpa using h1, h2⟩
theorem DvAll.at' {K : PySem.W.Frag} {H : Hp} : ∀ {xs : List V} {ds : List PyData} {i : Nat} {d : PyData}, DvAll K H xs ds → ds[i]? = some d → ∃ x, xs[i]? = some x ∧ Dv K H x d
  | _, _, _, _, .nil, e => by simp at e
  | _, _, 0, _, .cons h _, e => by simp at e; subst e; exact ⟨_, rfl, h⟩
  | _, _, i + 1, x, .cons _ t, e => by
    obtain ⟨d, h1, h2⟩ := DvAll.at' (i := i) (d := x) t (by simpa using e)
    exact ⟨d, by simpa using h1, h2⟩
theorem DvAll.app {K : PySem.W.Frag} {H : Hp} : ∀ {xs ys : List V} {ds es : List PyData}, DvAll K H xs ds → DvAll K H ys es → DvAll K H (xs ++ ys) (ds ++ es)
  | _, _, _, _, .nil, s => s
  | _, _, _, _, .cons r t, s => .cons r (DvAll.app t s)
theorem DvAll.take {K : PySem.W.Frag} {H : Hp} : ∀ {xs : List V} {ds : List PyData} (n : Nat), DvAll K H xs ds → DvAll K H (xs.take n) (ds.take n)
  | _, _, 0, _ => .nil
  | _, _, _ + 1, .nil => .nil
  | _, _, n + 1, .cons r t => .cons r (DvAll.take n t)
theorem DvAll.drop {K : PySem.W.Frag} {H : Hp} : ∀ {xs : List V} {ds : List PyData} (n : Nat), DvAll K H xs ds → DvAll K H (xs.drop n) (ds.drop n)
  | _, _, 0, r => r
  | _, _, _ + 1, .nil => .nil
  | _, _, n + 1, .cons _ t => DvAll.drop n t
theorem DvAll.set {K : PySem.W.Frag} {H : Hp} {x : V} {d : PyData} (r : Dv K H x d) : ∀ {xs : List V} {ds : List PyData} (i : Nat), DvAll K H xs ds → DvAll K H (xs.set i x) (ds.set i d)
  | _, _, _, .nil => .nil
  | _, _, 0, .cons _ t => .cons r t
  | _, _, i + 1, .cons q t => .cons q (DvAll.set r i t)
/-! ### what it reads as -/
theorem pairs_reads {P : Program} {w : World} {h : Heap} : ∀ {es : List DictEntry} {vs : List (Key × Value)}, Pairs (mixKind P w) es vs → (∃ as, ReadsAll h (es.map (·.key)) (vs.map fun p => ofK p.1) as ∧ as = []) ∧ es.map (·.val) = vs.map (·.2)
  | _, _, .nil => ⟨⟨_, .nil, rfl⟩, rfl⟩
  | _, _, .cons (e := e) (kv := kv) hk hv t => by
    obtain ⟨⟨as, h1, h0⟩, h2⟩ := pairs_reads (h := h) t
    refine ⟨?_, by rw [List.map_cons, List.map_cons, h2, hv]⟩
    rcases keyIs_shape (k := kv.1) (v := e.key) hk with ⟨i, u, e1, e2⟩ | ⟨x, u, e1, e2⟩
    · refine ⟨_, ReadsAll.cons (as := []) (bs := as) ?_ h1, by rw [h0]; rfl⟩
      show Reads h e.key (ofK kv.1) []
      rw [e1, e2]
      exact Reads.int i u
    · refine ⟨_, ReadsAll.cons (as := []) (bs := as) ?_ h1, by rw [h0]; rfl⟩
      show Reads h e.key (ofK kv.1) []
      rw [e1, e2]
      exact Reads.str x u
theorem kv_keys {kvs : List (Key × V)} {vs : List (Key × Value)} (r : KV kvs vs) : vs.map (fun p => ofK p.1) = kvs.map fun p => ofK p.1 := by
  have h := r.keys
  have e1 : vs.map (fun p => ofK p.1) = (vs.map (·.1)).map ofK := by rw [List.map_map]; rfl
  have e2 : kvs.map (fun p => ofK p.1) = (kvs.map (·.1)).map ofK := by rw [List.map_map]; rfl
  rw [e1, e2, h]
theorem kv_vals : ∀ {kvs : List (Key × V)} {vs : List (Key × Value)}, KV kvs vs → Vals (kvs.map (·.2)) (vs.map (·.2))
  | _, _, .nil => .nil
  | _, _, .cons r t => .cons r.2 (kv_vals t)
theorem sys_tracked {X : Cx} {pins : List (Addr × Obj)} {σ : L2.St} {H : Hp} {s : Shared} (I : Inv X pins σ H s) {a : Addr} {kvs : List (Key × V)} (e : H a = some (.dK kvs)) : (a == sysModules) = false := (dk_of I.hok e).2.1
mutual
theorem Dv.reads {X : Cx} {pins : List (Addr × Obj)} {σ : L2.St} {H : Hp} {s : Shared} (I : Inv X pins σ H s) : ∀ {d : PyData} {v : V} {u : Value}, Dv X.K H v d → RelV v u → ∃ as, Reads s.heap u d as
  | _, _, _, .non, r => by cases r; exact ⟨_, Reads.none⟩
  | _, _, _, .bl b, r => by cases r; exact ⟨_, Reads.bool b⟩
  | _, _, _, .int i, r => by obtain ⟨t, rfl⟩ := r; exact ⟨_, Reads.int i t⟩
  | _, _, _, .str x, r => by obtain ⟨t, rfl⟩ := r; exact ⟨_, Reads.str x t⟩
  | _, _, _, .lst hs ha, r => by
    cases r
    obtain ⟨its, rv, ⟨o, n, ho, hc, _, hd⟩, _⟩ := I.list hs
    obtain ⟨as, hr⟩ := DvAll.reads I ha rv
    exact ⟨_, Reads.list ho hc hd hr⟩
  | _, _, _, .tup hs ha, r => by
    cases r
    obtain ⟨its, rv, ⟨o, ho, hc, n, hd⟩, _⟩ := I.tuple hs
    obtain ⟨as, hr⟩ := DvAll.reads I ha rv
    exact ⟨_, Reads.tuple ho hc hd hr⟩
  | .dict ps, _, _, .dic (kvs := kvs) hs he ha, r => by
    cases r
    obtain ⟨_, hy, vs, kv, ⟨o, es, ep, ho, ex, hd, _, pr, _⟩⟩ := dk_of I.hok hs
    obtain ⟨⟨as, h1, n1⟩, h2⟩ := pairs_reads (h := s.heap) pr
    obtain ⟨bs, h3⟩ := DvAll.reads I ha (kv_vals kv)
    rw [kv_keys kv, he] at h1
    exact ⟨_, Reads.dict ho ex.1 hd h1 (by rw [h2]; exact h3)⟩
theorem DvAll.reads {X : Cx} {pins : List (Addr × Obj)} {σ : L2.St} {H : Hp} {s : Shared} (I : Inv X pins σ H s) : ∀ {ds : List PyData} {vs : List V} {us : List Value}, DvAll X.K H vs ds → Vals vs us → ∃ as, ReadsAll s.heap us ds as
  | _, _, _, .nil, r => by cases r; exact ⟨_, ReadsAll.nil⟩
  | _, _, _, .cons h1 h2, r => by
    cases r with
    | cons r1 r2 =>
      obtain ⟨as, q1⟩ := Dv.reads I h1 r1
      obtain ⟨bs, q2⟩ := DvAll.reads I h2 r2
      exact ⟨_, ReadsAll.cons q1 q2⟩
end
/-- the text of a value by its parts, none of which is deeper than n -/
def Shw (P : Program) (w : World) (h : Heap) (n : Nat) (u : Value) (t : Str) : Prop := ∃ bs, ReadAtMost h n bs ∧ ReprK P w bs h n u t
def ShwAll (P : Program) (w : World) (h : Heap) (n : Nat) (us : List Value) (ts : List Str) : Prop := ∃ bs, ReadAtMost h n bs ∧ ReprAllK P w bs h n us ts
theorem shw_is {P : Program} {w : World} {h : Heap} {n : Nat} {u : Value} {t : Str} (r : ReprIs P w u t) : Shw P w h n u t := ⟨[], fun _ z => (nomatch z), .of_is r _ _ _⟩
theorem ShwAll.mono {P : Program} {w : World} {h : Heap} {n m : Nat} {us : List Value} {ts : List Str} (l : n ≤ m) : ShwAll P w h n us ts → ShwAll P w h m us ts := fun ⟨bs, a, b⟩ => ⟨bs, a.mono l, b.more_le (fun _ z => z) l⟩
theorem ShwAll.cons {P : Program} {w : World} {h : Heap} {n m : Nat} {u : Value} {t : Str} {us : List Value} {ts : List Str} : Shw P w h n u t → ShwAll P w h m us ts → ShwAll P w h (max n m) (u :: us) (t :: ts) := by
  rintro ⟨bs, a, b⟩ ⟨cs, c, d⟩
  have l1 := Nat.le_max_left n m
  have l2 := Nat.le_max_right n m
  refine ⟨bs ++ cs, (a.mono l1).append (c.mono l2), ReprAllK.cons ((b.more fun z hz => ?_).level_le l1) (d.more_le (fun z hz => ?_) l2)⟩
  · exact List.mem_append.mpr (.inl hz)
  · exact List.mem_append.mpr (.inr hz)
theorem pairs_show {P : Program} {w : World} {h : Heap} : ∀ {es : List DictEntry} {vs : List (Key × Value)}, Pairs (mixKind P w) es vs → PyData.showableAll (vs.map fun p => ofK p.1) = true → (∀ t ∈ PyData.shownAll (vs.map fun p => ofK p.1), t.length ≤ sizeLine) →
    ShwAll P w h (PyData.depthAll (vs.map fun p => ofK p.1)) (es.map (·.key)) (PyData.shownAll (vs.map fun p => ofK p.1))
  | _, _, .nil, _, _ => ⟨[], fun _ z => (nomatch z), by simp only [List.map_nil, PyData.shownAll]; exact .nil⟩
  | _, _, .cons (e := e) (kv := kv) hk hv t, hs, hz => by
    rw [List.map_cons, PyData.showableAll, Bool.and_eq_true] at hs
    rw [List.map_cons, PyData.shownAll] at hz
    rw [List.map_cons, List.map_cons, PyData.shownAll, PyData.depthAll]
    refine ShwAll.cons ?_ (pairs_show t hs.2 fun x hx => hz x (List.mem_cons.mpr (.inr hx)))
    have z1 := hz _ (List.mem_cons.mpr (.inl rfl))
    have s1 := hs.1
    rcases keyIs_shape (k := kv.1) (v := e.key) hk with ⟨i, u, e1, e2⟩ | ⟨x, u, e1, e2⟩
    · rw [e1] at s1 z1 ⊢
      rw [e2]
      have s2 : PyData.showable (.int i) = true := s1
      exact shw_is (ReprIs.int u (by simpa [PyData.showable] using s2))
    · rw [e1] at s1 z1 ⊢
      rw [e2]
      exact shw_is (ReprIs.str x u (by simpa [ofK, PyData.shown] using z1))
mutual
theorem Dv.show {X : Cx} {pins : List (Addr × Obj)} {σ : L2.St} {H : Hp} {s : Shared} (I : Inv X pins σ H s) : ∀ {d : PyData} {v : V} {u : Value}, Dv X.K H v d → RelV v u → d.showable = true → d.shown.length ≤ sizeLine → Shw X.prog X.w s.heap d.depth u d.shown
  | _, _, _, .non, r, _, _ => by cases r; rw [PyData.shown]; exact shw_is ReprIs.none
  | _, _, _, .bl b, r, _, _ => by cases r; rw [PyData.shown]; exact shw_is (ReprIs.bool b)
  | _, _, _, .int i, r, hs, _ => by obtain ⟨t, rfl⟩ := r; rw [PyData.shown]; exact shw_is (ReprIs.int t (by simpa [PyData.showable] using hs))
  | _, _, _, .str x, r, _, hz => by obtain ⟨t, rfl⟩ := r; rw [PyData.shown] at hz ⊢; exact shw_is (ReprIs.str x t hz)
  | .list ds, .ref a, _, .lst hs ha, r, sh, hz => by
    cases r
    obtain ⟨its, rv, ⟨o, n, ho, hc, _, hd⟩, _⟩ := I.list hs
    obtain ⟨as, hr⟩ := DvAll.reads I ha rv
    have rd : Reads s.heap (.ref a) (.list ds) _ := Reads.list ho hc hd hr
    rw [PyData.shown] at hz ⊢
    obtain ⟨bs, hb, hk⟩ := DvAll.show I ha rv (by simpa [PyData.showable] using sh) fun t ht => Nat.le_trans (listText_mem_le ht) hz
    have na : a ∉ bs := not_mem_of_deeper rd (by rw [PyData.depth]; omega) hb
    refine ⟨a :: bs, ReadAtMost.cons rd (by rw [PyData.depth]; omega) hb, ?_⟩
    rw [PyData.depth]
    cases its with
    | nil =>
      cases hr
      simp only [listText_nil, PyData.shownAll]
      exact .listEmpty ho hc hd
    | cons x l => exact .list ho hc hd na (by simpa using hk.length_eq) fun i y e => hk.item i y (by simpa using e)
  | .tuple ds, .ref a, _, .tup hs ha, r, sh, hz => by
    cases r
    obtain ⟨its, rv, ⟨o, ho, hc, n, hd⟩, _⟩ := I.tuple hs
    obtain ⟨as, hr⟩ := DvAll.reads I ha rv
    have rd : Reads s.heap (.ref a) (.tuple ds) _ := Reads.tuple ho hc hd hr
    rw [PyData.shown] at hz ⊢
    obtain ⟨bs, hb, hk⟩ := DvAll.show I ha rv (by simpa [PyData.showable] using sh) fun t ht => Nat.le_trans (tupleText_mem_le ht) hz
    have na : a ∉ bs := not_mem_of_deeper rd (by rw [PyData.depth]; omega) hb
    refine ⟨a :: bs, ReadAtMost.cons rd (by rw [PyData.depth]; omega) hb, ?_⟩
    rw [PyData.depth]
    exact .tuple ho hc hd na hk
  | .dict ps, .ref a, _, .dic (kvs := kvs) hs he ha, r, sh, hz => by
    cases r
    obtain ⟨_, hy, vs, kv, ⟨o, es, ep, ho, ex, hd, _, pr, _⟩⟩ := dk_of I.hok hs
    obtain ⟨⟨as, h1, n1⟩, h2⟩ := pairs_reads (h := s.heap) pr
    obtain ⟨bs, h3⟩ := DvAll.reads I ha (kv_vals kv)
    obtain ⟨sh1, sh2⟩ := PyData.showableKv_split ps (by simpa [PyData.showable] using sh)
    rw [PyData.shown] at hz ⊢
    have k1 := pairs_show (h := s.heap) pr (by rw [kv_keys kv, he]; exact sh1) (fun t ht => by
      rw [kv_keys kv, he] at ht
      obtain ⟨p, hp, hl⟩ := PyData.shownKv_key_le ps t ht
      exact Nat.le_trans hl (Nat.le_trans (dictText_mem_le hp) hz))
    rw [kv_keys kv, he] at k1 h1
    have k2 := DvAll.show I ha (kv_vals kv) sh2 (fun t ht => by
      obtain ⟨p, hp, hl⟩ := PyData.shownKv_val_le ps t ht
      exact Nat.le_trans hl (Nat.le_trans (dictText_mem_le hp) hz))
    rw [← h2] at k2 h3
    have rd : Reads s.heap (.ref a) (.dict ps) _ := Reads.dict ho ex.1 hd h1 h3
    obtain ⟨b1, r1, q1⟩ := k1.mono (PyData.depthAll_keys_le ps)
    obtain ⟨b2, r2, q2⟩ := k2.mono (PyData.depthAll_vals_le ps)
    have hb := r1.append r2
    have na : a ∉ b1 ++ b2 := not_mem_of_deeper rd (by rw [PyData.depth]; omega) hb
    refine ⟨a :: (b1 ++ b2), ReadAtMost.cons rd (by rw [PyData.depth]; omega) hb, ?_⟩
    rw [PyData.depth, PyData.shownKv_eq]
    refine .dict ho ex.1 hd hy na (ReprEntriesK.of_two es.toList _ _ (q1.more_le (fun z hz => ?_) (Nat.le_refl _)) (q2.more_le (fun z hz => ?_) (Nat.le_refl _)))
    · exact List.mem_append.mpr (.inl hz)
    · exact List.mem_append.mpr (.inr hz)
theorem DvAll.show {X : Cx} {pins : List (Addr × Obj)} {σ : L2.St} {H : Hp} {s : Shared} (I : Inv X pins σ H s) : ∀ {ds : List PyData} {vs : List V} {us : List Value}, DvAll X.K H vs ds → Vals vs us → PyData.showableAll ds = true → (∀ t ∈ PyData.shownAll ds, t.length ≤ sizeLine) →
    ShwAll X.prog X.w s.heap (PyData.depthAll ds) us (PyData.shownAll ds)
  | _, _, _, .nil, r, _, _ => by cases r; rw [PyData.shownAll]; exact ⟨[], fun _ z => (nomatch z), .nil⟩
  | _, _, _, .cons h1 h2, r, sh, hz => by
    cases r with
    | cons r1 r2 =>
      rw [PyData.showableAll, Bool.and_eq_true] at sh
      rw [PyData.shownAll] at hz ⊢
      rw [PyData.depthAll]
      exact ShwAll.cons (Dv.show I h1 r1 sh.1 (hz _ (List.mem_cons.mpr (.inl rfl)))) (DvAll.show I h2 r2 sh.2 fun x hx => hz x (List.mem_cons.mpr (.inr hx)))
end
/-! ### weight and repr -/
mutual
def okV : PyData → Bool
  | .none => true
  | .bool _ => true
  | .int i => decide (i.natAbs < 2 ^ 1000)
  | .str x => (x.cps.toList.all fun c => decide (c < 4294967296)) && decide (x.length ≤ 100000)
  | .list xs => okVAll xs
  | .tuple xs => okVAll xs
  | .dict ps => okVKv ps
def okVAll : List PyData → Bool
  | [] => true
  | x :: xs => okV x && okVAll xs
def okVKv : List (PyData × PyData) → Bool
  | [] => true
  | (a, b) :: r => okV a && okV b && okVKv r
end
mutual
/-- no less than the length of its text -/
def wV : PyData → Nat
  | .none => 4
  | .bool _ => 5
  | .int _ => 1010
  | .str x => 10 * x.length + 2
  | .list xs => wVAll xs + 4
  | .tuple xs => wVAll xs + 4
  | .dict ps => wVKv ps + 4
def wVAll : List PyData → Nat
  | [] => 0
  | x :: xs => wV x + 2 + wVAll xs
def wVKv : List (PyData × PyData) → Nat
  | [] => 0
  | (a, b) :: r => wV a + wV b + 6 + wVKv r
end
theorem wVAll_len : ∀ ds : List PyData, ds.length ≤ wVAll ds
  | [] => Nat.le_refl _
  | d :: ds => by have := wVAll_len ds; rw [wVAll, List.length_cons]; omega
theorem wVAll_mem : ∀ {ds : List PyData} {d : PyData}, d ∈ ds → wV d + 2 ≤ wVAll ds
  | e :: ds, d, h => by
    rw [wVAll]
    rcases List.mem_cons.mp h with rfl | h
    · omega
    · have := wVAll_mem h; omega
theorem wVAll_app : ∀ (xs ys : List PyData), wVAll (xs ++ ys) = wVAll xs + wVAll ys
  | [], ys => by rw [List.nil_append, wVAll]; omega
  | x :: xs, ys => by rw [List.cons_append, wVAll, wVAll, wVAll_app xs ys]; omega
theorem okVAll_app : ∀ (xs ys : List PyData), okVAll (xs ++ ys) = (okVAll xs && okVAll ys)
  | [], ys => by rw [List.nil_append, okVAll]; rfl
  | x :: xs, ys => by rw [List.cons_append, okVAll, okVAll, okVAll_app xs ys, Bool.and_assoc]
theorem okVAll_mem : ∀ {ds : List PyData} {d : PyData}, okVAll ds = true → d ∈ ds → okV d = true
  | e :: ds, d, k, h => by
    rw [okVAll, Bool.and_eq_true] at k
    rcases List.mem_cons.mp h with rfl | h
    · exact k.1
    · exact okVAll_mem k.2 h
theorem okVAll_of : ∀ {ds : List PyData}, (∀ d ∈ ds, okV d = true) → okVAll ds = true
  | [], _ => rfl
  | e :: ds, h => by
    rw [okVAll, Bool.and_eq_true]
    exact ⟨h e (List.mem_cons_self ..), okVAll_of fun d hd => h d (List.mem_cons_of_mem _ hd)⟩
theorem dictText_le : ∀ (ps : List (PyData × PyData)), (dictText (PyData.shownKv ps)).length ≤ piled (PyData.shownKv ps) + 4 := by
  intro ps
  unfold dictText
  rw [strLen_append, strLen_append]
  have e1 : ((("{" : String) : Str)).length = 1 := rfl
  have e3 : ((("}" : String) : Str)).length = 1 := rfl
  by_cases h : PyData.shownKv ps = []
  · rw [h]
    have e0 : (Str.join ", " []).length = 0 := rfl
    omega
  · have := join_length_add (PyData.shownKv ps) h
    omega
mutual
theorem shownV_le : ∀ d : PyData, okV d = true → d.shown.length ≤ wV d ∧ d.showable = true
  | .none, _ => ⟨by decide, rfl⟩
  | .bool b, _ => ⟨by cases b <;> decide, rfl⟩
  | .int i, h => by
    have h' : i.natAbs < 2 ^ 1000 := of_decide_eq_true (show decide _ = true from h)
    exact ⟨toString_le h', decide_eq_true (log_le h')⟩
  | .str x, h => by
    refine ⟨StrLaws.reprText_len x fun c hc => ?_, rfl⟩
    have h' : ((x.cps.toList.all fun c => decide (c < 4294967296)) && decide (x.length ≤ 100000)) = true := h
    rw [Bool.and_eq_true] at h'
    have := of_decide_eq_true (List.all_eq_true.mp h'.1 c hc)
    have e : (16 : Nat) ^ 8 = 4294967296 := by decide
    omega
  | .list xs, h => by
    have ih := shownVAll_le xs h
    refine ⟨?_, by rw [PyData.showable]; exact ih.2⟩
    rw [PyData.shown, wV]
    have := listText_le (PyData.shownAll xs)
    omega
  | .tuple xs, h => by
    have ih := shownVAll_le xs h
    refine ⟨?_, by rw [PyData.showable]; exact ih.2⟩
    rw [PyData.shown, wV]
    have := tupleText_le (PyData.shownAll xs)
    omega
  | .dict ps, h => by
    have ih := shownVKv_le ps h
    refine ⟨?_, by rw [PyData.showable]; exact ih.2⟩
    rw [PyData.shown, wV]
    have := dictText_le ps
    omega
theorem shownVAll_le : ∀ ds : List PyData, okVAll ds = true → piled (PyData.shownAll ds) ≤ wVAll ds ∧ PyData.showableAll ds = true
  | [], _ => ⟨by rw [PyData.shownAll]; exact Nat.le_refl _, rfl⟩
  | d :: ds, h => by
    have h' : (okV d && okVAll ds) = true := by rw [okVAll] at h; exact h
    rw [Bool.and_eq_true] at h'
    have i1 := shownV_le d h'.1
    have i2 := shownVAll_le ds h'.2
    refine ⟨?_, by rw [PyData.showableAll, i1.2, i2.2]; rfl⟩
    rw [PyData.shownAll, wVAll]
    have e2 : piled (d.shown :: PyData.shownAll ds) = d.shown.length + 2 + piled (PyData.shownAll ds) := by unfold piled; rw [List.map_cons, List.sum_cons]
    omega
theorem shownVKv_le : ∀ ps : List (PyData × PyData), okVKv ps = true → piled (PyData.shownKv ps) ≤ wVKv ps ∧ PyData.showableKv ps = true
  | [], _ => ⟨by rw [PyData.shownKv]; exact Nat.le_refl _, rfl⟩
  | (a, b) :: r, h => by
    have h' : (okV a && okV b && okVKv r) = true := by rw [okVKv] at h; exact h
    rw [Bool.and_eq_true, Bool.and_eq_true] at h'
    have i1 := shownV_le a h'.1.1
    have i2 := shownV_le b h'.1.2
    have i3 := shownVKv_le r h'.2
    refine ⟨?_, by rw [PyData.showableKv, i1.2, i2.2, i3.2]; rfl⟩
    rw [PyData.shownKv, wVKv]
    have e2 : ∀ (t : Str) (l : List Str), piled (t :: l) = t.length + 2 + piled l := fun t l => by unfold piled; rw [List.map_cons, List.sum_cons]
    rw [e2, strLen_append, strLen_append]
    have e3 : (((": " : String) : Str)).length = 2 := rfl
    omega
end
/-- how deep -/
def rReprV (K : PySem.W.Frag) : List V → Hp → VK → Prop := fun xs H Q => ∃ (x : V) (d : PyData), xs = [x] ∧ Dv K H x d ∧ okV d = true ∧ d.depth ≤ 40 ∧ wV d ≤ 10000000 ∧ Q (.str d.shown) H
theorem shows_call {P : Program} {w : World} {s : Shared} {a : Addr} {d : PyData} {T idr : String} {A : Around} {E : Value → Shared → Prop} {Q : Value → Shared → Prop} (hg : A.guards = some []) (hu : A.units + (d.depth + 1) < cLine) (S : ShowsBy P w s.heap a d T idr)
    (q : ∀ h' u tk, (∀ b o, s.heap.get? b = some o → h'.get? b = some o) → Q (.str d.shown u) { s with heap := h', toks := tk }) : wpAny (model P w) A (call (.builtin "repr") [.ref a]) Q E s :=
  call_repr_slot (by omega) (S.typeIs s fun _ _ e => e) S.slotRepr (S.call A.in1 E s _ hg (by show A.units + 1 + d.depth < cLine; omega) (fun _ _ e => e) fun h' u tk hk => ⟨_, _, rfl, q h' u tk hk⟩)
theorem call_reprV {X : Cx} (hg : X.A.guards = some []) (hu : X.A.units + 64 < cLine) : CallR X (.builtin "repr") (rReprV X.K) := by
  intro pins s σ H xs us Q I r h
  obtain ⟨x, d, rfl, hd, ok, hn, hw, q⟩ := h
  obtain ⟨u, rfl, ru⟩ := vals1 r
  obtain ⟨hl, hs⟩ := shownV_le d ok
  have hsz : d.shown.length ≤ sizeLine := by rw [sizeLine_eq]; omega
  cases hd with
  | non =>
    cases ru
    exact P.repr_of_none ⟨.str _, H, I.tok _, ⟨_, rfl⟩, q⟩
  | bl b =>
    cases ru
    exact P.repr_of_bool ⟨.str _, H, I.tok _, ⟨_, rfl⟩, q⟩
  | int i =>
    obtain ⟨t, rfl⟩ := ru
    have h' : i.natAbs < 2 ^ 1000 := of_decide_eq_true (show decide _ = true from ok)
    exact P.repr_of_int (log_le h') ⟨.str _, H, I.tok _, ⟨_, rfl⟩, q⟩
  | str z =>
    obtain ⟨t, rfl⟩ := ru
    exact P.repr_of_str ⟨.str _, H, I.tok _, ⟨_, rfl⟩, q⟩ hsz
  | @lst a xs ds hs2 ha =>
    cases ru
    refine shows_call (T := "list") (idr := "list.__repr__") (d := .list ds) hg (by omega) ⟨F.slot_list_repr.toG, F.slot_list_str, F.slot_list_format, fun s2 hk => ?_, fun A E s2 Q2 hg2 hu2 hk0 hQ => ?_⟩ fun h' tu tk hk => ⟨.str _, H, I.kept hk, ⟨_, rfl⟩, q⟩
    · obtain ⟨its, rv, ⟨o, n, ho, hc, _, hd⟩, _⟩ := I.list hs2
      exact ⟨o, hk _ _ ho, hc⟩
    · obtain ⟨its, rv, ⟨o, n, ho, hc, _, hd⟩, _⟩ := I.list hs2
      rw [PyData.shown] at hsz hQ
      rw [PyData.depth] at hu2
      obtain ⟨bs, hb, hk⟩ := DvAll.show I ha rv (by simpa [PyData.showable] using hs) fun t ht => Nat.le_trans (listText_mem_le ht) hsz
      obtain ⟨as, hr⟩ := DvAll.reads I ha rv
      have na : a ∉ bs := not_mem_of_deeper (Reads.list ho hc hd hr) (by rw [PyData.depth]; omega) hb
      cases its with
      | nil =>
        cases hr
        rw [PyData.shownAll, listText_nil] at hQ
        exact call_list_repr_empty ⟨o, hk0 _ _ ho, hc⟩ (hk0 _ _ ho) hd (hQ s2.heap _ _ fun _ _ e => e)
      | cons y l => exact call_list_reprK ho hc hd na (by simpa using hk.length_eq) (fun i z e => hk.item i z (by simpa using e)) hg2 (fun b _ => Clear.nil b) hu2 hk0 hQ hsz
  | @tup a xs ds hs2 ha =>
    cases ru
    refine shows_call (T := "tuple") (idr := "tuple.__repr__") (d := .tuple ds) hg (by omega) ⟨F.slot_tuple_repr, F.slot_tuple_str, F.slot_tuple_format, fun s2 hk => ?_, fun A E s2 Q2 hg2 hu2 hk0 hQ => ?_⟩ fun h' tu tk hk => ⟨.str _, H, I.kept hk, ⟨_, rfl⟩, q⟩
    · obtain ⟨its, rv, ⟨o, ho, hc, n, hd⟩, _⟩ := I.tuple hs2
      exact ⟨o, hk _ _ ho, hc⟩
    · obtain ⟨its, rv, ⟨o, ho, hc, n, hd⟩, _⟩ := I.tuple hs2
      rw [PyData.shown] at hsz hQ
      rw [PyData.depth] at hu2
      obtain ⟨bs, hb, hk⟩ := DvAll.show I ha rv (by simpa [PyData.showable] using hs) fun t ht => Nat.le_trans (tupleText_mem_le ht) hsz
      obtain ⟨as, hr⟩ := DvAll.reads I ha rv
      have na : a ∉ bs := not_mem_of_deeper (Reads.tuple ho hc hd hr) (by rw [PyData.depth]; omega) hb
      exact call_tuple_reprK ho hc hd na hk hg2 (fun b _ => Clear.nil b) hu2 hk0 hQ hsz
  | @dic a kvs ps hs2 he ha =>
    cases ru
    refine shows_call (T := "dict") (idr := "dict.__repr__") (d := .dict ps) hg (by omega) ⟨F.slot_dict_repr, F.slot_dict_str, F.slot_dict_format, fun s2 hk => ?_, fun A E s2 Q2 hg2 hu2 hk0 hQ => ?_⟩ fun h' tu tk hk => ⟨.str _, H, I.kept hk, ⟨_, rfl⟩, q⟩
    · obtain ⟨_, hy, vs, kv, ⟨o, es, ep, ho, ex, hd, _, pr, _⟩⟩ := dk_of I.hok hs2
      exact ⟨o, hk _ _ ho, ex.1⟩
    · obtain ⟨_, hy, vs, kv, ⟨o, es, ep, ho, ex, hd, _, pr, _⟩⟩ := dk_of I.hok hs2
      obtain ⟨⟨as, h1, n1⟩, h2⟩ := pairs_reads (h := s.heap) pr
      obtain ⟨bs, h3⟩ := DvAll.reads I ha (kv_vals kv)
      obtain ⟨sh1, sh2⟩ := PyData.showableKv_split ps (by simpa [PyData.showable] using hs)
      rw [PyData.shown] at hsz hQ
      rw [PyData.depth] at hu2
      have k1 := pairs_show (h := s.heap) pr (by rw [kv_keys kv, he]; exact sh1) (fun t ht => by
        rw [kv_keys kv, he] at ht
        obtain ⟨p, hp, hl⟩ := PyData.shownKv_key_le ps t ht
        exact Nat.le_trans hl (Nat.le_trans (dictText_mem_le hp) hsz))
      rw [kv_keys kv, he] at k1 h1
      have k2 := DvAll.show I ha (kv_vals kv) sh2 (fun t ht => by
        obtain ⟨p, hp, hl⟩ := PyData.shownKv_val_le ps t ht
        exact Nat.le_trans hl (Nat.le_trans (dictText_mem_le hp) hsz))
      rw [← h2] at k2 h3
      obtain ⟨b1, r1, q1⟩ := k1.mono (PyData.depthAll_keys_le ps)
      obtain ⟨b2, r2, q2⟩ := k2.mono (PyData.depthAll_vals_le ps)
      have na : a ∉ b1 ++ b2 := not_mem_of_deeper (Reads.dict ho ex.1 hd h1 h3) (by rw [PyData.depth]; omega) (r1.append r2)
      rw [PyData.shownKv_eq] at hQ hsz
      refine call_dict_reprK ho ex.1 hd hy na (ReprEntriesK.of_two es.toList _ _ (q1.more_le (fun z hz => ?_) (Nat.le_refl _)) (q2.more_le (fun z hz => ?_) (Nat.le_refl _))) hg2 (fun b _ => Clear.nil b) hu2 hk0 hQ hsz
      · exact List.mem_append.mpr (.inl hz)
      · exact List.mem_append.mpr (.inr hz)
end Fld
/-! what a field, a list of fields, a setting is, over data of any kind -/
namespace Fld
open PySem PySem.Spec PyProof.Rows L2
def dBtw : PyData → Int → Int → Bool
  | .int i, a, b => decide (a ≤ i) && decide (i ≤ b)
  | _, _, _ => false
def dTxt : PyData → Int → Int → Bool
  | .str x, a, b => decide (a ≤ (x.length : Int)) && decide ((x.length : Int) ≤ b) && x.cps.toList.all isChar
  | _, _, _ => false
theorem Dv.btw {K : PySem.W.Frag} {H : Hp} {v : V} {d : PyData} (h : Dv K H v d) (a b : Int) : Fld.btw v a b = dBtw d a b := by cases h <;> rfl
theorem Dv.txt {K : PySem.W.Frag} {H : Hp} {v : V} {d : PyData} (h : Dv K H v d) (a b : Int) : Fld.txt v a b = dTxt d a b := by cases h <;> rfl
/-- not too great for any rule -/
def Lim (d : PyData) : Prop := okV d = true ∧ wV d ≤ 10000000
theorem Dv.strLe {K : PySem.W.Frag} {H : Hp} {v : V} {d : PyData} (h : Dv K H v d) (hw : Lim d) : ∀ x, v = .str x → x.length ≤ 100000 := by
  rintro x rfl
  cases h
  have h' : ((x.cps.toList.all fun c => decide (c < 4294967296)) && decide (x.length ≤ 100000)) = true := hw.1
  rw [Bool.and_eq_true, decide_eq_true_eq] at h'
  exact h'.2
def dField : PyData → Bool
  | .tuple [n, v] => dTxt n 1 20 && dTxt v 0 40
  | _ => false
def dFields (most : Nat) : PyData → Bool
  | .tuple ds => decide (ds.length ≤ most) && ds.all dField
  | _ => false
def dSetting : PyData → Bool
  | .tuple [f, r, w] => dFields 12 f && dBtw r 0 120 && dBtw w 0 4
  | _ => false
def dOctets : PyData → Bool
  | .list ds => ds.all fun d => dBtw d 0 255
  | _ => false
def isTup : PyData → Bool
  | .tuple _ => true
  | _ => false
def isLst : PyData → Bool
  | .list _ => true
  | _ => false
def isStr : PyData → Bool
  | .str _ => true
  | _ => false
def isDic : PyData → Bool
  | .dict _ => true
  | _ => false
theorem sub_tup (d : PyData) : subT (tyD d) "tuple" = isTup d := by
  cases d with
  | none => decide
  | bool b => show subT "bool" "tuple" = false; decide
  | int i => show subT "int" "tuple" = false; decide
  | str x => show subT "str" "tuple" = false; decide
  | list l => show subT "list" "tuple" = false; decide
  | tuple l => show subT "tuple" "tuple" = true; decide
  | dict l => show subT "dict" "tuple" = false; decide
theorem sub_lst (d : PyData) : subT (tyD d) "list" = isLst d := by
  cases d with
  | none => decide
  | bool b => show subT "bool" "list" = false; decide
  | int i => show subT "int" "list" = false; decide
  | str x => show subT "str" "list" = false; decide
  | list l => show subT "list" "list" = true; decide
  | tuple l => show subT "tuple" "list" = false; decide
  | dict l => show subT "dict" "list" = false; decide
theorem sub_str (d : PyData) : subT (tyD d) "str" = isStr d := by
  cases d with
  | none => decide
  | bool b => show subT "bool" "str" = false; decide
  | int i => show subT "int" "str" = false; decide
  | str x => show subT "str" "str" = true; decide
  | list l => show subT "list" "str" = false; decide
  | tuple l => show subT "tuple" "str" = false; decide
  | dict l => show subT "dict" "str" = false; decide
theorem sub_dic (d : PyData) : subT (tyD d) "dict" = isDic d := by
  cases d with
  | none => decide
  | bool b => show subT "bool" "dict" = false; decide
  | int i => show subT "int" "dict" = false; decide
  | str x => show subT "str" "dict" = false; decide
  | list l => show subT "list" "dict" = false; decide
  | tuple l => show subT "tuple" "dict" = false; decide
  | dict l => show subT "dict" "dict" = true; decide
theorem Dv.asT {K : PySem.W.Frag} {H : Hp} {v : V} {d : PyData} (h : Dv K H v d) (e : subT (tyD d) "tuple" = true) : ∃ a xs ds, v = .ref a ∧ d = .tuple ds ∧ SqT K H a xs ∧ DvAll K H xs ds := by
  rw [sub_tup] at e
  cases h <;> first | cases e | skip
  rename_i hs ha
  exact ⟨_, _, _, rfl, rfl, hs, ha⟩
theorem Dv.asL {K : PySem.W.Frag} {H : Hp} {v : V} {d : PyData} (h : Dv K H v d) (e : subT (tyD d) "list" = true) : ∃ a xs ds, v = .ref a ∧ d = .list ds ∧ SqL K H a xs ∧ DvAll K H xs ds := by
  rw [sub_lst] at e
  cases h <;> first | cases e | skip
  rename_i hs ha
  exact ⟨_, _, _, rfl, rfl, hs, ha⟩
theorem Dv.asS {K : PySem.W.Frag} {H : Hp} {v : V} {d : PyData} (h : Dv K H v d) (e : subT (tyD d) "str" = true) : ∃ x, v = .str x ∧ d = .str x := by
  rw [sub_str] at e
  cases h <;> first | cases e | skip
  exact ⟨_, rfl, rfl⟩
theorem nb {c : Bool} (e : (!c) = true) : c = false := by cases c <;> first | rfl | cases e
theorem nb' {c : Bool} (e : (!c) = false) : c = true := by cases c <;> first | rfl | cases e
theorem dField_no {d : PyData} (e : subT (tyD d) "tuple" = false) : dField d = false := by
  rw [sub_tup] at e
  cases d <;> first | rfl | cases e
theorem dFields_no {d : PyData} {m : Nat} (e : subT (tyD d) "tuple" = false) : dFields m d = false := by
  rw [sub_tup] at e
  cases d <;> first | rfl | cases e
theorem dSetting_no {d : PyData} (e : subT (tyD d) "tuple" = false) : dSetting d = false := by
  rw [sub_tup] at e
  cases d <;> first | rfl | cases e
theorem dOctets_no {d : PyData} (e : subT (tyD d) "list" = false) : dOctets d = false := by
  rw [sub_lst] at e
  cases d <;> first | rfl | cases e
theorem dTxt_no {d : PyData} {a b : Int} (e : subT (tyD d) "str" = false) : dTxt d a b = false := by
  rw [sub_str] at e
  cases d <;> first | rfl | cases e
/-- a check: True or False, all that stood stands -/
def sp_chk (K : PySem.W.Frag) (f : PyData → Bool) : Sp := fun vs H Q _ => ∃ (v : V) (d : PyData), vs = [v] ∧ Dv K H v d ∧ Lim d ∧ ∀ H', Same H H' → Q (.bl (f d)) H'
def sp_chkM (K : PySem.W.Frag) (f : Nat → PyData → Bool) : Sp := fun vs H Q _ => ∃ (v : V) (d : PyData) (m : Nat), vs = [v, .int (m : Nat)] ∧ Dv K H v d ∧ Lim d ∧ ∀ H', Same H H' → Q (.bl (f m d)) H'
def sp_chkT (K : PySem.W.Frag) : Sp := fun vs H Q _ => ∃ (v : V) (d : PyData) (a b : Int), vs = [v, .int a, .int b] ∧ Dv K H v d ∧ Lim d ∧ ∀ H', Same H H' → Q (.bl (dTxt d a b)) H'
def sp_chkB (K : PySem.W.Frag) : Sp := fun vs H Q _ => ∃ (v : V) (d : PyData) (a b : Int), vs = [v, .int a, .int b] ∧ Dv K H v d ∧ Q (.bl (dBtw d a b)) H
theorem len2 {K : PySem.W.Frag} {H : Hp} {xs : List V} {ds : List PyData} (h : DvAll K H xs ds) (e : xs.length = 2) : ∃ x0 x1 d0 d1, xs = [x0, x1] ∧ ds = [d0, d1] ∧ Dv K H x0 d0 ∧ Dv K H x1 d1 := by
  cases h with
  | nil => cases e
  | cons h0 t =>
    cases t with
    | nil => cases e
    | cons h1 t =>
      cases t with
      | nil => exact ⟨_, _, _, _, rfl, rfl, h0, h1⟩
      | cons _ _ => simp at e
theorem len3 {K : PySem.W.Frag} {H : Hp} {xs : List V} {ds : List PyData} (h : DvAll K H xs ds) (e : xs.length = 3) : ∃ x0 x1 x2 d0 d1 d2, xs = [x0, x1, x2] ∧ ds = [d0, d1, d2] ∧ Dv K H x0 d0 ∧ Dv K H x1 d1 ∧ Dv K H x2 d2 := by
  cases h with
  | nil => cases e
  | cons h0 t =>
    obtain ⟨_, _, _, _, rfl, rfl, h1, h2⟩ := len2 t (by simpa using e)
    exact ⟨_, _, _, _, _, _, rfl, rfl, h0, h1, h2⟩
theorem dField_ne {ds : List PyData} (h : ds.length ≠ 2) : dField (.tuple ds) = false := by
  match ds, h with
  | [], _ => rfl
  | [_], _ => rfl
  | [_, _], h => exact absurd rfl h
  | _ :: _ :: _ :: _, _ => rfl
theorem dSetting_ne {ds : List PyData} (h : ds.length ≠ 3) : dSetting (.tuple ds) = false := by
  match ds, h with
  | [], _ => rfl
  | [_], _ => rfl
  | [_, _], _ => rfl
  | [_, _, _], h => exact absurd rfl h
  | _ :: _ :: _ :: _ :: _, _ => rfl
theorem decI {n m : Nat} : decide (V.int (n : Int) = V.int (m : Int)) = decide (n = m) := by
  rw [decide_eq_decide]
  constructor
  · intro h; injection h with h; omega
  · rintro rfl; rfl
theorem nAt {n m : Nat} (e : decide (V.int (n : Int) = V.int (m : Int)) = true) : n = m := by rw [decI] at e; exact of_decide_eq_true e
theorem nNe {n m : Nat} (e : decide (V.int (n : Int) = V.int (m : Int)) = false) : n ≠ m := by rw [decI] at e; exact of_decide_eq_false e
/-- the weight of an item -/
theorem w_tup {ds : List PyData} {d : PyData} (h : d ∈ ds) (hw : Lim (.tuple ds)) : Lim d := by
  obtain ⟨h1, h2⟩ := hw
  rw [okV] at h1
  rw [wV] at h2
  have := wVAll_mem h
  exact ⟨okVAll_mem h1 h, by omega⟩
theorem w_lst {ds : List PyData} {d : PyData} (h : d ∈ ds) (hw : Lim (.list ds)) : Lim d := by
  obtain ⟨h1, h2⟩ := hw
  rw [okV] at h1
  rw [wV] at h2
  have := wVAll_mem h
  exact ⟨okVAll_mem h1 h, by omega⟩
theorem w_tupLen {ds : List PyData} (hw : Lim (.tuple ds)) : ds.length ≤ 10000000 := by
  have h2 := hw.2
  rw [wV] at h2; have := wVAll_len ds; omega
theorem w_lstLen {ds : List PyData} (hw : Lim (.list ds)) : ds.length ≤ 10000000 := by
  have h2 := hw.2
  rw [wV] at h2; have := wVAll_len ds; omega
/-- a list of truths, one for each item -/
theorem tests_of {K : PySem.W.Frag} {H : Hp} {xs : List V} {ds : List PyData} (f : PyData → Bool) (h : DvAll K H xs ds) : (List.range xs.length).map (fun i => V.bl (f (ds.getD i .none))) = (ds.map f).map V.bl := by
  rw [h.len, List.map_map]
  exact range_map ds (fun c => V.bl (f c)) .none
theorem all_id {ds : List PyData} (f : PyData → Bool) : (ds.map f).all id = ds.all f := by rw [List.all_map]; rfl
theorem inB {b : Bool} (bs : List Bool) : inV (.bl false) (bs.map V.bl) = !bs.all id := by
  unfold inV
  rw [List.any_map]
  induction bs with
  | nil => rfl
  | cons c r ih =>
    rw [List.any_cons, List.all_cons, ih]
    cases c <;> rfl
theorem flatB (bs : List Bool) : (bs.map V.bl).all flatV = true := by
  rw [List.all_map]; exact List.all_eq_true.mpr fun _ _ => rfl
end Fld
/-! data apart from the pen: what is drawn, what is laid new -/
namespace Fld
open PySem PySem.Spec PyProof.Rows L2
/-- the heap but for some objects -/
def OffS (S : List Addr) (H : Hp) : Hp := fun b => if b ∈ S then none else H b
/-- these objects are there -/
def Hid (S : List Addr) (H : Hp) : Prop := ∀ b ∈ S, H b ≠ none
section
variable {K : PySem.W.Frag} {p c q : Addr} {H H' H1 H2 : Hp} {o : HO} {n m : Nat} {S : List Addr}
theorem off_sub (S : List Addr) (H : Hp) : Same (OffS S H) H := fun b u e => by
  unfold OffS at e
  by_cases h : b ∈ S
  · rw [if_pos h] at e; cases e
  · rw [if_neg h] at e; exact e
theorem off_ne {b : Addr} (h : b ∉ S) : OffS S H b = H b := by unfold OffS; rw [if_neg h]
theorem off_get {b : Addr} (h : OffS S H b = some o) : b ∉ S ∧ H b = some o := by
  unfold OffS at h
  by_cases e : b ∈ S
  · rw [if_pos e] at h; cases h
  · rw [if_neg e] at h; exact ⟨e, h⟩
theorem But.off (b : But p H H') (hp : p ∈ S) : Same (OffS S H) (OffS S H') := fun a u e => by
  obtain ⟨n, e⟩ := off_get e
  rw [off_ne n]
  exact b a u (fun z => n (z ▸ hp)) e
theorem _root_.L2.Same.off (s : Same H H') : Same (OffS S H) (OffS S H') := fun a u e => by
  obtain ⟨n, e⟩ := off_get e
  rw [off_ne n]
  exact s a u e
theorem Drew.off (d : Drew p c H H' n) (hp : p ∈ S) : Same (OffS S H) (OffS S H') := d.but.off hp
theorem Dv.on {v : V} {d : PyData} (h : Dv K (OffS S H) v d) : Dv K H v d := h.keep (off_sub S H)
theorem DvAll.on {v : List V} {d : List PyData} (h : DvAll K (OffS S H) v d) : DvAll K H v d := h.keep (off_sub S H)
theorem Hid.keep (h : Hid S H) (s : Same H H') : Hid S H' := fun b hb => by
  cases e : H b with
  | none => exact absurd e (h b hb)
  | some u => rw [s b u e]; exact fun z => nomatch z
theorem Pen.some_ (h : Pen H p c n) : H p ≠ none := by
  obtain ⟨⟨xs, e⟩, _⟩ := h.some
  rw [e]; exact fun z => nomatch z
theorem Hid.drew (h : Hid S H) (d : Drew p c H H' n) : Hid S H' := fun b hb => by
  by_cases z : b = p
  · rw [z]; exact d.pen.some_
  · cases e : H b with
    | none => exact absurd e (h b hb)
    | some u => rw [d.but b u z e]; exact fun z => nomatch z
theorem Hid.one (h : Pen H p c n) : Hid [p] H := fun b hb => by rw [List.mem_singleton.mp hb]; exact h.some_
theorem Hid.nil : Hid [] H := fun b hb => nomatch hb
theorem Hid.cons (h : Hid S H) (hq : H q ≠ none) : Hid (q :: S) H := fun b hb => by
  rcases List.mem_cons.mp hb with rfl | hb
  · exact hq
  · exact h b hb
theorem Hid.not (h : Hid S H) (hq : H q = none) : q ∉ S := fun z => h q z hq
theorem Hid.upd (h : Hid S H) : Hid S (L2.upd H q o) := fun b hb => by
  by_cases z : b = q
  · rw [z, upd_same]; exact fun z => nomatch z
  · rw [upd_ne z]; exact h b hb
/-- a new object is laid beside the hidden ones -/
theorem off_new (hq : H q = none) (hS : Hid S H) : OffS S (upd H q o) q = some o := by rw [off_ne (hS.not hq), upd_same]
theorem new_lst {xs : List V} {ds : List PyData} (hq : H q = none) (hS : Hid S H) (h : DvAll K (OffS S H) xs ds) : Dv K (OffS S (upd H q (.lst xs))) (.ref q) (.list ds) := .lst (SqL.of (off_new hq hS)) (h.keep (Same.new hq).off)
theorem new_tup {xs : List V} {ds : List PyData} (hq : H q = none) (hS : Hid S H) (h : DvAll K (OffS S H) xs ds) : Dv K (OffS S (upd H q (.tup xs))) (.ref q) (.tuple ds) := .tup (SqT.of (off_new hq hS)) (h.keep (Same.new hq).off)
theorem new_dic (hq : H q = none) (hS : Hid S H) : Dv K (OffS S (upd H q (.dK []))) (.ref q) (.dict []) := .dic (off_new hq hS) rfl .nil
theorem at_lst {a : Addr} {xs : List V} {ds : List PyData} (h : H a = some (.lst xs)) (hn : a ∉ S) (d : DvAll K (OffS S H) xs ds) : Dv K (OffS S H) (.ref a) (.list ds) := .lst (SqL.of (by rw [off_ne hn]; exact h)) d
theorem at_tup {a : Addr} {xs : List V} {ds : List PyData} (h : H a = some (.tup xs)) (hn : a ∉ S) (d : DvAll K (OffS S H) xs ds) : Dv K (OffS S H) (.ref a) (.tuple ds) := .tup (SqT.of (by rw [off_ne hn]; exact h)) d
/-- a hidden object turns, and is hidden no more -/
theorem off_put : Same (OffS (q :: S) H) (OffS S (upd H q o)) := fun b u e => by
  obtain ⟨n, e⟩ := off_get e
  have nq : b ≠ q := fun z => n (by rw [z]; exact List.mem_cons_self ..)
  rw [off_ne fun z => n (List.mem_cons_of_mem _ z), upd_ne nq]
  exact e
theorem off_more (hq : H q = none) : Same (OffS S H) (OffS (q :: S) H) := fun b u e => by
  obtain ⟨n, e⟩ := off_get e
  rw [off_ne fun z => ?_]
  · exact e
  · rcases List.mem_cons.mp z with rfl | z
    · rw [hq] at e; cases e
    · exact n z
theorem off_less : Same (OffS (q :: S) H) (OffS S H) := fun b u e => by
  obtain ⟨n, e⟩ := off_get e
  rw [off_ne fun z => n (List.mem_cons_of_mem _ z)]
  exact e
theorem Pen.new (h : Pen H p c n) (hq : H q = none) : Pen (L2.upd H q o) p c n := h.keep (Same.new hq)
theorem DvAll.mem {xs : List V} {ds : List PyData} {x : V} (h : DvAll K H xs ds) (hx : x ∈ xs) : ∃ d ∈ ds, Dv K H x d := by
  obtain ⟨i, hi, rfl⟩ := List.mem_iff_getElem.mp hx
  obtain ⟨d, hd, hv⟩ := h.at (i := i) (x := xs[i]) (by simp)
  exact ⟨d, List.mem_of_getElem? hd, hv⟩
theorem DvAll.of : ∀ {xs : List V}, (∀ x ∈ xs, ∃ d, Dv K H x d) → ∃ ds, DvAll K H xs ds
  | [], _ => ⟨[], .nil⟩
  | x :: xs, h => by
    obtain ⟨d, hd⟩ := h x (List.mem_cons_self ..)
    obtain ⟨ds, hds⟩ := DvAll.of (xs := xs) fun y hy => h y (List.mem_cons_of_mem _ hy)
    exact ⟨d :: ds, .cons hd hds⟩
theorem DvAll.rep {x : V} {d : PyData} (h : Dv K H x d) : ∀ k : Nat, DvAll K H (List.replicate k x) (List.replicate k d)
  | 0 => .nil
  | k + 1 => .cons h (DvAll.rep h k)
end
/-- data that is small: at most d deep, at most b of weight -/
structure Sz (b k : Nat) (d : PyData) : Prop where
  ok : okV d = true
  w : wV d ≤ b
  dp : d.depth ≤ k
theorem Sz.mono {b k b' k' : Nat} {d : PyData} (h : Sz b k d) (l1 : b ≤ b') (l2 : k ≤ k') : Sz b' k' d := ⟨h.ok, Nat.le_trans h.w l1, Nat.le_trans h.dp l2⟩
theorem depthAll_le {k : Nat} : ∀ {ds : List PyData}, (∀ d ∈ ds, d.depth ≤ k) → PyData.depthAll ds ≤ k
  | [], _ => by rw [PyData.depthAll]; omega
  | d :: ds, h => by
    rw [PyData.depthAll]
    have h1 := h d (List.mem_cons_self ..)
    have h2 := depthAll_le (ds := ds) fun e he => h e (List.mem_cons_of_mem _ he)
    omega
theorem depthAll_mem : ∀ {ds : List PyData} {d : PyData}, d ∈ ds → d.depth ≤ PyData.depthAll ds
  | e :: ds, d, h => by
    rw [PyData.depthAll]
    rcases List.mem_cons.mp h with rfl | h
    · omega
    · have := depthAll_mem h; omega
def SzAll (k : Nat) (ds : List PyData) : Prop := okVAll ds = true ∧ PyData.depthAll ds ≤ k
theorem sz_tup {b k : Nat} {ds : List PyData} (h : Sz b (k + 1) (.tuple ds)) : okVAll ds = true ∧ wVAll ds + 4 ≤ b ∧ PyData.depthAll ds ≤ k := by
  obtain ⟨h1, h2, h3⟩ := h
  rw [okV] at h1
  rw [wV] at h2
  rw [PyData.depth] at h3
  exact ⟨h1, h2, by omega⟩
theorem sz_lst {b k : Nat} {ds : List PyData} (h : Sz b (k + 1) (.list ds)) : okVAll ds = true ∧ wVAll ds + 4 ≤ b ∧ PyData.depthAll ds ≤ k := by
  obtain ⟨h1, h2, h3⟩ := h
  rw [okV] at h1
  rw [wV] at h2
  rw [PyData.depth] at h3
  exact ⟨h1, h2, by omega⟩
theorem sz_tup' {b k : Nat} {ds : List PyData} (h1 : okVAll ds = true) (h2 : wVAll ds + 4 ≤ b) (h3 : PyData.depthAll ds ≤ k) : Sz b (k + 1) (.tuple ds) := ⟨by rw [okV]; exact h1, by rw [wV]; exact h2, by rw [PyData.depth]; omega⟩
theorem sz_lst' {b k : Nat} {ds : List PyData} (h1 : okVAll ds = true) (h2 : wVAll ds + 4 ≤ b) (h3 : PyData.depthAll ds ≤ k) : Sz b (k + 1) (.list ds) := ⟨by rw [okV]; exact h1, by rw [wV]; exact h2, by rw [PyData.depth]; omega⟩
theorem sz_str {x : Str} {b : Nat} (h : x.cps.toList.all (fun c => decide (c < 4294967296)) = true) (hl : x.length ≤ 100000) (hb : 10 * x.length + 2 ≤ b) : Sz b 0 (.str x) := ⟨by rw [okV, h, decide_eq_true hl]; rfl, by rw [wV]; exact hb, by rw [PyData.depth]; omega⟩
theorem chars_small {x : Str} (h : x.cps.toList.all isChar = true) : x.cps.toList.all (fun c => decide (c < 4294967296)) = true := by
  rw [List.all_eq_true] at h ⊢
  intro c hc
  have h1 : charCodes.all (fun c => decide (c < 4294967296)) = true := by decide
  exact List.all_eq_true.mp h1 c (List.contains_iff_mem.mp (h c hc))
theorem sz_txt {x : Str} {a : Int} {b : Nat} (h : txt (.str x) a (b : Nat) = true) (hb : b ≤ 100000 := by decide) : Sz (10 * b + 2) 0 (.str x) := by
  have h2 := txt_all h
  have h' : (decide (a ≤ (x.length : Int)) && decide ((x.length : Int) ≤ (b : Nat)) && x.cps.toList.all isChar) = true := h
  simp only [Bool.and_eq_true, decide_eq_true_eq] at h'
  exact sz_str (chars_small h2) (by omega) (by omega)
theorem sz_int {i : Int} (h : i.natAbs < 2 ^ 1000 := by decide +kernel) : Sz 1010 0 (.int i) := ⟨decide_eq_true h, Nat.le_refl _, by rw [PyData.depth]; omega⟩
/-! ### what a draw of any data promises -/
/-- k draws at most; data of weight b at most, d deep at most -/
def sp_drawV (K : PySem.W.Frag) (k b e : Nat) (f : PyData → Prop) : Sp := fun vs H Q _ => ∃ (p c : Addr) (n : Nat) (S : List Addr), vs = [.ref p] ∧ Pen H p c n ∧ n ≤ 700000 ∧ p ∈ S ∧ Hid S H ∧
  ∀ (v : V) (d : PyData) H', Dv K (OffS S H') v d → Sz b e d → f d → Drew p c H H' (n + k) → Q v H'
/-- one of a text's signs -/
def sp_one_str : Sp := fun vs H Q _ => ∃ (p c : Addr) (n : Nat) (z : Str), vs = [.ref p, .str z] ∧ Pen H p c n ∧ 0 < z.length ∧ z.length ≤ 1000 ∧ n ≤ 900000 ∧ ∀ (x : Nat) H', x ∈ z.cps.toList → Drew p c H H' (n + 1) → Q (.str ⟨#[x]⟩) H'
def otherSigns : Str := "!#$&'()*+,<>?@ABCDEFGHIJKLMNOPQRSTUVWXYZ[]^_`{|}~\"\\"
theorem other_small : otherSigns.cps.toList.all (fun c => decide (c < 4294967296)) = true := by decide +kernel
theorem small_app {x y : Str} (hx : x.cps.toList.all (fun c => decide (c < 4294967296)) = true) (hy : y.cps.toList.all (fun c => decide (c < 4294967296)) = true) : (x ++ y).cps.toList.all (fun c => decide (c < 4294967296)) = true := by
  have e : (x ++ y).cps.toList = x.cps.toList ++ y.cps.toList := by
    show (x.cps ++ y.cps).toList = _
    simp
  rw [e, List.all_append, hx, hy]; rfl
theorem small_cut {x : Str} {a b : Option Int} (hx : x.cps.toList.all (fun c => decide (c < 4294967296)) = true) : (cutS x a b).cps.toList.all (fun c => decide (c < 4294967296)) = true := by
  rw [List.all_eq_true] at hx ⊢
  intro c hc
  unfold cutS at hc
  exact hx c (List.mem_of_mem_drop (List.mem_of_mem_take hc))
theorem cutS_len (x : Str) (a b : Option Int) : (cutS x a b).length ≤ x.length := by
  unfold cutS
  show ((x.cps.toList.drop _).take _).toArray.size ≤ x.cps.size
  simp only [List.size_toArray, List.length_take, List.length_drop, Array.length_toList]
  omega
end Fld
namespace Fld
open PySem PySem.Spec PyProof.Rows L2
/-- a value with one part changed, or another: no more than one deeper, at most twice the weight -/
def sp_bent (K : PySem.W.Frag) (M : Nat) : Sp := fun vs H Q _ => ∃ (p c : Addr) (n : Nat) (v : V) (d : PyData) (b e : Nat) (S : List Addr), vs = [.ref p, v] ∧ Pen H p c n ∧ n + 100 * (e + 1) ≤ 600000 ∧ p ∈ S ∧ Hid S H ∧ Dv K (OffS S H) v d ∧ Sz b e d ∧ e ≤ M ∧ M ≤ 20 ∧ b ≤ 100000 ∧
  ∀ (v' : V) (d' : PyData) H', Dv K (OffS S H') v' d' → Sz (2 * b + 2000) (e + 1) d' → Drew p c H H' (n + 100 * (e + 1)) → Q v' H'
def sp_bent_sub (K : PySem.W.Frag) : Nat → Sp
  | 0 => fun _ _ _ _ => False
  | m + 1 => sp_bent K m
theorem wVAll_set : ∀ {ds : List PyData} {i : Nat} {d e : PyData}, ds[i]? = some d → wVAll (ds.set i e) + wV d = wVAll ds + wV e
  | [], _, _, _, h => by simp at h
  | x :: xs, 0, d, e, h => by
    simp at h; subst h
    rw [List.set_cons_zero, wVAll, wVAll]
    omega
  | x :: xs, i + 1, d, e, h => by
    have := wVAll_set (ds := xs) (i := i) (d := d) (e := e) (by simpa using h)
    rw [List.set_cons_succ, wVAll, wVAll]; omega
theorem okVAll_set {ds : List PyData} {i : Nat} {e : PyData} (h : okVAll ds = true) (he : okV e = true) : okVAll (ds.set i e) = true := by
  refine okVAll_of fun d hd => ?_
  rcases List.mem_or_eq_of_mem_set hd with h1 | rfl
  · exact okVAll_mem h h1
  · exact he
theorem depthAll_set {k : Nat} {ds : List PyData} {i : Nat} {e : PyData} (h : PyData.depthAll ds ≤ k) (he : e.depth ≤ k) : PyData.depthAll (ds.set i e) ≤ k := by
  refine depthAll_le fun d hd => ?_
  rcases List.mem_or_eq_of_mem_set hd with h1 | rfl
  · exact Nat.le_trans (depthAll_mem h1) h
  · exact he
theorem wVAll_erase : ∀ (ds : List PyData) (i : Nat), wVAll (ds.eraseIdx i) ≤ wVAll ds
  | [], _ => Nat.le_refl _
  | x :: xs, 0 => by rw [List.eraseIdx_cons_zero, wVAll]; omega
  | x :: xs, i + 1 => by have := wVAll_erase xs i; rw [List.eraseIdx_cons_succ, wVAll, wVAll]; omega
theorem DvAll.erase {K : PySem.W.Frag} {H : Hp} : ∀ {xs : List V} {ds : List PyData} (i : Nat), DvAll K H xs ds → DvAll K H (xs.eraseIdx i) (ds.eraseIdx i)
  | _, _, _, .nil => .nil
  | _, _, 0, .cons _ t => t
  | _, _, i + 1, .cons q t => .cons q (DvAll.erase i t)
theorem okVAll_erase {ds : List PyData} {i : Nat} (h : okVAll ds = true) : okVAll (ds.eraseIdx i) = true := okVAll_of fun d hd => okVAll_mem h (List.mem_of_mem_eraseIdx hd)
theorem depthAll_erase {k : Nat} {ds : List PyData} {i : Nat} (h : PyData.depthAll ds ≤ k) : PyData.depthAll (ds.eraseIdx i) ≤ k := depthAll_le fun d hd => Nat.le_trans (depthAll_mem (List.mem_of_mem_eraseIdx hd)) h
def insD (ds : List PyData) (i : Nat) (d : PyData) : List PyData := ds.take i ++ [d] ++ ds.drop i
theorem wVAll_ins (ds : List PyData) (i : Nat) (d : PyData) : wVAll (insD ds i d) = wVAll ds + wV d + 2 := by
  unfold insD
  rw [wVAll_app, wVAll_app]
  have e : wVAll ds = wVAll (ds.take i) + wVAll (ds.drop i) := by rw [← wVAll_app, List.take_append_drop]
  have e2 : wVAll [d] = wV d + 2 := by rw [wVAll, wVAll]
  omega
theorem ins_mem {ds : List PyData} {i : Nat} {d x : PyData} (h : x ∈ insD ds i d) : x ∈ ds ∨ x = d := by
  unfold insD at h
  rcases List.mem_append.mp h with h | h
  · rcases List.mem_append.mp h with h | h
    · exact .inl (List.mem_of_mem_take h)
    · exact .inr (List.mem_singleton.mp h)
  · exact .inl (List.mem_of_mem_drop h)
theorem okVAll_ins {ds : List PyData} {i : Nat} {d : PyData} (h : okVAll ds = true) (hd : okV d = true) : okVAll (insD ds i d) = true := okVAll_of fun x hx => by
  rcases ins_mem hx with h1 | rfl
  · exact okVAll_mem h h1
  · exact hd
theorem depthAll_ins {k : Nat} {ds : List PyData} {i : Nat} {d : PyData} (h : PyData.depthAll ds ≤ k) (hd : d.depth ≤ k) : PyData.depthAll (insD ds i d) ≤ k := depthAll_le fun x hx => by
  rcases ins_mem hx with h1 | rfl
  · exact Nat.le_trans (depthAll_mem h1) h
  · exact hd
theorem DvAll.ins {K : PySem.W.Frag} {H : Hp} {xs : List V} {ds : List PyData} {x : V} {d : PyData} (i : Nat) (h : DvAll K H xs ds) (hx : Dv K H x d) : DvAll K H (xs.take i ++ [x] ++ xs.drop i) (insD ds i d) := ((h.take i).app (.cons hx .nil)).app (h.drop i)
theorem depth0 {d : PyData} (h : d.depth ≤ 0) : isTup d = false ∧ isLst d = false := by
  cases d with
  | list l => rw [PyData.depth] at h; omega
  | tuple l => rw [PyData.depth] at h; omega
  | _ => exact ⟨rfl, rfl⟩
end Fld
namespace Fld
open PySem PySem.Spec PyProof.Rows L2
theorem with_leaf {G : Prop} {R : Hp → Prop} (Body : Hp → Prop) (h : ∀ H1, R H1 → Body H1) (m : (∀ H1, R H1 → Body H1) → G) : G := m h
/-- a tuple or a list, its items -/
theorem Dv.seqs {K : PySem.W.Frag} {H : Hp} {v : V} {d : PyData} (h : Dv K H v d) (e : (subT (tyD d) "tuple" || subT (tyD d) "list") = true) :
    ∃ a xs ds, v = .ref a ∧ ((SqT K H a xs ∧ d = .tuple ds) ∨ (SqL K H a xs ∧ d = .list ds)) ∧ DvAll K H xs ds := by
  rw [sub_tup, sub_lst] at e
  cases h <;> first | cases e | skip
  · rename_i hs ha
    exact ⟨_, _, _, rfl, .inr ⟨hs, rfl⟩, ha⟩
  · rename_i hs ha
    exact ⟨_, _, _, rfl, .inl ⟨hs, rfl⟩, ha⟩
theorem seq_len {K : PySem.W.Frag} {H : Hp} {a : Addr} {xs : List V} {P Q : Prop} (h : (SqT K H a xs ∧ P) ∨ (SqL K H a xs ∧ Q)) : LenV K (.ref a) H xs.length := by
  rcases h with h | h
  · exact .inr ⟨_, h.1, rfl⟩
  · exact .inl ⟨_, h.1, rfl⟩
theorem ixN_n {n i : Nat} (h : i < n) : ixN n (i : Int) = some i := Evl.ixN_nat h
end Fld
namespace Fld
open PySem PySem.Spec PyProof.Rows L2
section
variable {K : PySem.W.Frag} {p c q D : Addr} {H H' H1 H2 Ha H4 : Hp} {o : HO} {n m k b e : Nat} {S : List Addr} {f : PyData → Prop}
theorem off_hid (h : q ∈ S) : Same (OffS S H) (OffS S (upd H q o)) := fun a u e => by
  obtain ⟨n, e⟩ := off_get e
  have na : a ≠ q := fun z => n (by rw [z]; exact h)
  rw [off_ne n, upd_ne na]
  exact e
/-- a list of drawn data under way at D -/
structure LcI (K : PySem.W.Frag) (p c D : Addr) (S : List Addr) (Ha : Hp) (n k b e : Nat) (f : PyData → Prop) (i : Nat) (ys : List V) (H' : Hp) : Prop where
  drew : Drew p c Ha H' (n + k * i)
  ex : ∃ ds, DvAll K (OffS (D :: S) H') ys ds ∧ ∀ d ∈ ds, Sz b e d ∧ f d
theorem LcI.start (hp : Pen Ha p c n) (hD : Ha D = none) : LcI K p c D S Ha n k b e f 0 [] (upd Ha D (.lst [])) :=
  ⟨⟨(hp.new hD).mono (by omega), But.new hD⟩, [], .nil, fun d hd => nomatch hd⟩
theorem LcI.step {i : Nat} {ys : List V} {v : V} {d : PyData} (I : LcI K p c D S Ha n k b e f i ys H') (hp : Pen Ha p c n) (pS : p ∈ S) (hD : Ha D = none) (g : H' D = some (.lst ys)) (hv : Dv K (OffS (D :: S) H4) v d) (hz : Sz b e d) (hf : f d) (h4 : Drew p c H' H4 (n + k * i + k)) :
    H4 D = some (.lst ys) ∧ LcI K p c D S Ha n k b e f (i + 1) (ys ++ [v]) (upd H4 D (.lst (ys ++ [v]))) := by
  have nD : D ≠ p := fun z => hp.some_ (z ▸ hD)
  have nC : c ≠ D := hp.nec hD
  obtain ⟨ds, hds, ha⟩ := I.ex
  refine ⟨h4.but _ _ nD g, ⟨⟨(h4.pen.upd (fun z => nD z.symm) nC).mono (by rw [Nat.mul_succ]; omega), (I.drew.but.trans h4.but).put hD⟩, ds ++ [d], ?_, ?_⟩⟩
  · exact (((hds.keep (h4.off (List.mem_cons_of_mem _ pS))).app (.cons hv .nil))).keep (off_hid (List.mem_cons_self ..))
  · intro x hx
    rcases List.mem_append.mp hx with h | h
    · exact ha x h
    · rw [List.mem_singleton.mp h]; exact ⟨hz, hf⟩
end
end Fld
/-! an error that an except clause hands to a local: it stays known behind the clause; isinstance of it -/
namespace Fld
open PySem PySem.Spec PyProof.Rows L2
/-- a caught error of the class cls, its own dict d, at a -/
def ExK (cls : Value) (d : Option Addr) (a : Addr) : HO := .ext fun h => ∃ (oe : Obj) (vs : Array Value), h.get? a = some oe ∧ Zc cls d oe ∧ oe.data = .fields vs
section
variable {X : Cx} {pins : List (Addr × Obj)} {σ : L2.St} {H : Hp} {s : Shared} {a : Addr} {oe : Obj} {cls : Value} {d : Option Addr}
theorem adopt (I : Inv X pins σ H s) (ha : s.heap.get? a = some oe) (hz : Zc cls d oe) (hf : ∃ vs, oe.data = .fields vs) (na : H a = none) (n0 : X.s_0.heap.get? a = none) (nL : a ≠ X.env.locals) (np : ∀ p ∈ X.pn ++ pins, p.1 ≠ a) :
    Inv X pins σ (upd H a (ExK cls d a)) s := by
  obtain ⟨vs, hv⟩ := hf
  have nw : ObjOk X.prog X.w (upd H a (ExK cls d a)) s.heap a (ExK cls d a) := ⟨⟨oe, vs, ha, hz, hv⟩, ⟨oe, ha⟩, fun h1 h2 ⟨o, v, q1, q2⟩ k => ⟨o, v, k o q1, q2⟩⟩
  have b := I.base
  have apart : ∀ c o, X.s_0.heap.get? c = some o → c ≠ a := fun c o e z => by rw [z, n0] at e; cases e
  have got : ∀ (c : Addr) (u : HO), H c = some u → upd H a (ExK cls d a) c = some u := fun c u e => by rw [upd_ne (ne_of_none e na)]; exact e
  refine ⟨I.ok, I.os, I.bare, ⟨b.keep, b.slot, fun c o e n hx => ?_, b.there, fun c xs e => got _ _ (b.tups c xs e), fun c o u e => got _ _ (b.frzs c o u e), fun c ps e => ?_⟩, I.loc, I.cell, ?_, fun x c e => ?_, fun p hp => ?_, ?_, I.len⟩
  · rw [upd_ne (apart c o e)]
    exact b.free c o e n hx
  · obtain ⟨m, e2⟩ := b.tbls c ps e
    exact ⟨m, got _ _ e2⟩
  · rw [upd_ne (Ne.symm nL)]
    exact I.free
  · obtain ⟨v, o, e1, e2⟩ := I.cell x c e
    have nc : c ≠ a := fun z => by
      rw [z, ha] at e1
      cases e1
      rw [hv] at e2
      simp at e2
    rw [upd_ne nc]
    exact I.freeC x c e
  · obtain ⟨q1, q2, q3⟩ := I.pin p hp
    exact ⟨q1, by rw [upd_ne (np p hp)]; exact q2, q3⟩
  · exact I.hok.laidN (fun _ _ z => z) na nw
end
/-- what a clause 'except x as n' wishes, whose error stays known -/
def wKeep (K : PySem.W.Frag) (c : Value) (i : Nat) (ts : Addr → Value → Option Addr → TS) (Wout : WX) (D : Ends) : WX := fun cls d σ H =>
  ∃ b, PySem.W.exmOne K cls c = some b ∧ (b = true → ∀ a, H a = none → ts a cls d { nx := fun σ' H' => H' a = none → D.nx (σ'.set i none) (upd H' a (ExK cls d a)), rt := D.rt, bk := fun σ' H' => D.bk (σ'.set i none) H', ct := fun σ' H' => D.ct (σ'.set i none) H' } (σ.set i (some (.ref a))) H) ∧
    (b = false → Wout cls d σ H)
end Fld
namespace Fld
open PySem PySem.Spec PyProof.Rows L2
section
variable {X : Cx} {x n : Str} {c : Value} {i : Nat} {body suite : List Stmt} {b0 : Stmt} {np pos pos' : Pos} {tb : WX → TS} {ts : Addr → Value → Option Addr → TS} {Wout : WX}
theorem keep_catch {pins : List (Addr × Obj)} {s' : Shared} {D : Ends} {u : Value} (okX : X.Ok) (hst : X.stack = X.env :: X.outer) (hfm : X.env.frame = some X.env.locals) (nod : X.N.Nodup) (hix : X.N[i]? = some n) (lcl : X.env.kindOf n = some .local) (nam : Names X x c) (hex : X.ex = []) (tko : Takes X Wout)
    (su : ∀ (a : Addr) (oe : Obj) (cls : Value) (d : Option Addr) (pn : List (Addr × Obj)), Zc cls d oe → (∃ vs, oe.data = .fields vs) → PSs (X.suite a ((a, oe) :: pn)) (b0 :: suite) (ts a cls d))
    {xe : Value → Shared → Prop} (xx : XE (X.tr (X.pn ++ pins) xe) (wKeep X.K c i ts Wout D) u s') :
    wpAny (model X.prog X.w) X.A (noteFrame u X.env) (fun _ s2 => wpAny (model X.prog X.w) X.A (setFlight u none) (fun _ s3 =>
      wpAny (model X.prog X.w) X.A (handleBy u X.env [.ExceptHandler (some (.Name x np)) (some n) (b0 :: suite) pos']) (SP X pins D) X.xe s3) X.xe s2) X.xe s' := by
  obtain ⟨a, B, sI, pin2, σ1, H1, cls, d, rfl, Jt, nbB, upS, skyT, noA, eOs, eAg, bb, exB, whenT, whenF⟩ := xx
  have JJ : Inv X pins σ1 H1 sI := Jt.ofTry okX
  have fr2 : X.A.frames = some (X.env :: X.outer) := by rw [okX.frames, hst]
  have vis2 : Loc X.env.scope n := Or.inl lcl
  have skyX : Sky B (X.env :: X.outer) a (Zc cls d) X.env.locals s'.heap := by rw [← hst]; exact skyT
  refine Sky.land Zc.steady fr2 hfm skyX fun hA flA upA => ?_
  have JA : Inv X pins σ1 H1 { s' with heap := hA } := JJ.landed nbB flA.1 (upS.trans upA) eOs eAg
  obtain ⟨oeA, vsA, atA, zcA, dtA⟩ := flA.there
  have offFr : a ∉ frs (X.env :: X.outer) := fun hm => by
    obtain ⟨_, o', e', hnf⟩ := flA.2.2.1.mem hm
    rw [atA] at e'
    cases e'
    exact hnf _ dtA
  have offL : a ≠ X.env.locals := fun z => offFr (List.mem_filterMap.mpr ⟨X.env, .head _, by rw [hfm, z]⟩)
  have offF : a ∉ X.fs := fun hm => by
    obtain ⟨e, he, q⟩ := List.mem_filterMap.mp hm
    exact offFr (List.mem_filterMap.mpr ⟨e, .tail _ he, q⟩)
  have newA : sI.heap.get? a = none := by
    cases q : sI.heap.get? a with
    | none => rfl
    | some o =>
      have := nbB a o q (by show a ∉ frs X.stack; rw [hst]; exact offFr)
      rw [flA.2.1] at this
      cases this
  have s0A : X.s_0.heap.get? a = none := by
    cases q : X.s_0.heap.get? a with
    | none => rfl
    | some o =>
      obtain ⟨o', e'⟩ := JJ.base.there a o q (by rw [hex]; exact fun z => nomatch z)
      rw [newA] at e'
      cases e'
  have apart : ∀ p ∈ X.pn ++ pins, p.1 ≠ a := fun p hp z => by
    have hq : p ∈ (X.pn ++ pins) ++ pin2 := List.mem_append.mpr (.inl hp)
    have := (Jt.pin p hq).1
    rw [z, newA] at this
    cases this
  have SA := JA.suite atA dtA noA offL offF
  refine wpAny_handleBy_cons (codeAny_handlers_test ?_) (fun q => by cases q)
  have LKa : PySem.W.Looks (model X.prog X.w) hA (typeOf (.ref a)) cls := fun A2 Q2 E2 s2 k2 q2 => wpAny_typeOf_ref (k2 _ _ atA) (by rw [zcA.1]; exact q2)
  have LKm := PySem.W.exm_one (M := model X.prog X.w) JA.kIn LKa exB
  have ask : ∀ {Q2 : Value → Shared → Prop} {E2 : Value → Shared → Prop}, Q2 c { s' with heap := hA } → wpAny (model X.prog X.w) (X.A.mark (some (.ref a))) (eval (.Name x np) X.env) Q2 E2 { s' with heap := hA } := fun {Q2 E2} q2 => by
    rcases nam with ⟨g1, g2, g3 | ⟨g3, g4, g5⟩⟩
    · exact ld_glob (X := X.suite a ((a, oeA) :: (X.pn ++ pins))) SA g1 g3 q2 g2
    · exact ld_blt (X := X.suite a ((a, oeA) :: (X.pn ++ pins))) SA g1 g3 g4 q2 g5 g2
  refine ask (LKm.here ?_)
  cases bb with
  | true =>
    refine codeAny_handlers_suite_as (HandSPX.lands_againZ flA fun hB flB upB => ?_)
    have JB : Inv X pins σ1 H1 { s' with heap := hB } := JJ.landed nbB flB.1 ((upS.trans upA).trans upB) eOs eAg
    obtain ⟨oeB, vsB, atB, zcB, dtB⟩ := flB.there
    have SB := JB.suite atB dtB noA offL offF
    refine store_ok (X := X.suite a ((a, oeB) :: (X.pn ++ pins))) (v := .ref a) SB nod hix vis2 rfl (fun sC SC => ?_) (.inr lcl)
    refine wpAny_mono ((su a oeB cls d (X.pn ++ pins) zcB ⟨_, dtB⟩).run [] sC _ H1 _ SC (whenT rfl a noA)) (fun f sD hD => ?_) (fun _ _ z => z.elim)
    have shut : ∀ {σ6 : L2.St} {H6 : Hp} {Q : Shared → Prop}, Inv (X.suite a ((a, oeB) :: (X.pn ++ pins))) [] σ6 H6 sD → (∀ s7, Inv X pins (σ6.set i none) H6 s7 → Q s7) →
        wpAny (model X.prog X.w) X.A (do bindName X.env n .none; unbindBehindTheSuite X.env n pos') (fun _ s7 => Q s7) X.xe sD := fun {σ6 H6 Q} S6 hq => gone_ok (S6.unsuite okX) nod hix lcl hq
    have shutK : ∀ {σ6 : L2.St} {H6 : Hp} {Q : Shared → Prop}, Inv (X.suite a ((a, oeB) :: (X.pn ++ pins))) [] σ6 H6 sD → (∀ s7, Inv X pins (σ6.set i none) (upd H6 a (ExK cls d a)) s7 → Q s7) →
        wpAny (model X.prog X.w) X.A (do bindName X.env n .none; unbindBehindTheSuite X.env n pos') (fun _ s7 => Q s7) X.xe sD := fun {σ6 H6 Q} S6 hq => by
      obtain ⟨p1, p2, p3, p4, p5⟩ := S6.pin (a, oeB) (.head _)
      exact gone_ok (adopt (S6.unsuite okX) p1 zcB ⟨_, dtB⟩ p2 s0A p3 apart) nod hix lcl hq
    cases f with
    | next =>
      obtain ⟨σ6, H6, S6, q6⟩ := hD
      exact shutK S6 fun s7 J7 => ⟨_, _, J7, q6 (S6.pin (a, oeB) (.head _)).2.1⟩
    | brk =>
      obtain ⟨σ6, H6, S6, q6⟩ := hD
      exact shut S6 fun s7 J7 => ⟨_, _, J7, q6⟩
    | cont =>
      obtain ⟨σ6, H6, S6, q6⟩ := hD
      exact shut S6 fun s7 J7 => ⟨_, _, J7, q6⟩
    | ret u =>
      obtain ⟨v6, σ6, H6, S6, r6, q6⟩ := hD
      exact shut S6 fun s7 J7 => ⟨_, _, _, J7, r6, q6⟩
  | false =>
    show wpAny _ X.A (handleBy (.ref a) X.env []) _ _ _
    refine wpAny_handleBy_nil ?_
    obtain ⟨kk1, kk2, kk3, oe, vs, T, oT, tt, he, hz, hd, h1, hr⟩ := id flA
    unfold PySem.passOn
    refine wpAny_bind (wpAny_field he hd h1 ?_)
    rw [if_neg (show ¬ ((Value.ref T == Value.none) = true) by simp)]
    have goOn : wpAny (model X.prog X.w) X.A (setFlight (.ref a) X.env.frame) (fun _ s4 => wpAny (model X.prog X.w) X.A (throw (.ref a) : Sem Flow) (SP X pins D) X.xe s4) X.xe { s' with heap := hA } := by
      rw [hfm]
      refine HandSPX.setFlight_upZ flA fun hB fB upB => wpAny_throw (tko _ _ ?_)
      exact ⟨a, B, sI, pins, σ1, H1, cls, d, rfl, JJ, nbB, (upS.trans upA).trans upB, .inr (.inr (by rw [hst]; exact fB)), noA, eOs, eAg, whenF rfl⟩
    first
      | exact wpAny_bind (wpAny_pure (wpAny_bind goOn))
      | exact wpAny_bind goOn
theorem ps_try_keep (hst : X.stack = X.env :: X.outer) (hfm : X.env.frame = some X.env.locals) (nod : X.N.Nodup) (hix : X.N[i]? = some n) (lcl : X.env.kindOf n = some .local) (nam : Names X x c) (hex : X.ex = []) (tko : Takes X Wout)
    (bd : ∀ (W : WX) (pn : List (Addr × Obj)) (xe : Value → Shared → Prop), Takes (X.tr pn xe) W → PassesOwn (model X.prog X.w) X.A X.env xe → PSs (X.tr pn xe) body (tb W))
    (su : ∀ (a : Addr) (oe : Obj) (cls : Value) (d : Option Addr) (pn : List (Addr × Obj)), Zc cls d oe → (∃ vs, oe.data = .fields vs) → PSs (X.suite a ((a, oe) :: pn)) (b0 :: suite) (ts a cls d)) :
    PS X (.Try body [.ExceptHandler (some (.Name x np)) (some n) (b0 :: suite) pos'] [] [] pos) (fun D σ H => tb (wKeep X.K c i ts Wout D) D σ H) := by
  refine ⟨fun pins s σ H D I h => wpAny_Try_except ?_⟩
  have okX := I.ok
  have whole := (bd (wKeep X.K c i ts Wout D) (X.pn ++ pins) (fun e s1 => wpAny (model X.prog X.w) X.A (noteFrame e X.env) (fun _ s2 => wpAny (model X.prog X.w) X.A (setFlight e none) (fun _ s3 =>
    wpAny (model X.prog X.w) X.A (handleBy e X.env [.ExceptHandler (some (.Name x np)) (some n) (b0 :: suite) pos']) (SP X pins D) X.xe s3) X.xe s2) X.xe s1) (fun u s' xx => keep_catch okX hst hfm nod hix lcl nam hex tko su xx) PassesOwn.looking).run [] s σ H D (I.toTry _) h
  refine wpAny_mono whole (fun f s1 hsp => ?_) (fun e s1 he => he)
  cases f with
  | next =>
    obtain ⟨σ', H', J', q⟩ := hsp
    exact wpAny_execs_nil ⟨σ', H', J'.ofTry okX, q⟩
  | brk =>
    obtain ⟨σ', H', J', q⟩ := hsp
    exact ⟨σ', H', J'.ofTry okX, q⟩
  | cont =>
    obtain ⟨σ', H', J', q⟩ := hsp
    exact ⟨σ', H', J'.ofTry okX, q⟩
  | ret u =>
    obtain ⟨v, σ', H', J', r, q⟩ := hsp
    exact ⟨v, σ', H', J'.ofTry okX, r, q⟩
end
end Fld
namespace Fld
open PySem PySem.Spec PyProof.Rows L2
/-- isinstance(x, C), C of one's own: of a plain caught error; of what has a built-in type -/
def rIsX (K : PySem.W.Frag) : List V → Hp → VK → Prop := fun xs H Q => ∃ (a D : Addr) (c : V) (cv : Value) (b : Bool), xs = [.ref a, c] ∧ H a = some (ExK (.ref D) none a) ∧ ExcC K D ∧ ClsV c cv ∧ PySem.W.kitOne K (.ref D) cv = some b ∧ Q (.bl b) H
theorem call_isX {X : Cx} : CallR X (.builtin "isinstance") (rIsX X.K) := by
  intro pins s σ H xs us Q I r h
  obtain ⟨a, D, c, cv, b, rfl, ha, C, hcv, e, q⟩ := h
  obtain ⟨u1, u2, rfl, r1, r2⟩ := vals2 r
  cases (show u1 = Value.ref a from r1)
  have ec := hcv.eq r2
  subst ec
  obtain ⟨⟨oe, vs, hget, hz, hv⟩, _⟩ := I.hok a _ ha
  have J : PySem.W.InstAt s.heap a oe D none := by
    obtain ⟨oc, od, oda, osl⟩ := oe
    obtain ⟨h1, h2⟩ := hz
    dsimp only at h1 h2 hv
    subst h1 h2 hv
    exact ⟨hget, rfl, rfl, True.intro⟩
  exact PySem.W.kia_one (PySem.W.handS_kitx_exc C.hg C.hk C.hs C.hd C.ha C.hn C.ht C.hm) I.kIn J e (fun z => nomatch z) fun tk => ⟨.bl b, H, I.kept (t' := tk) fun _ _ z => z, rfl, q⟩
def rIsU (K : PySem.W.Frag) : List V → Hp → VK → Prop := fun xs H Q => rIsi K xs H Q ∨ rIsX K xs H Q
theorem call_isU {X : Cx} : CallR X (.builtin "isinstance") (rIsU X.K) := by
  intro pins s σ H xs us Q I r h
  rcases h with h | h
  · exact call_isi pins s σ H xs us Q I r h
  · exact call_isX pins s σ H xs us Q I r h
/-- an own class in isinstance -/
theorem kit_own {K : PySem.W.Frag} {t : Value} {C : Addr} {b : Bool} (hd : PySem.W.hasDictIn K C = true) (ht : PySem.W.typeIn K (.ref C) = some (.type "type")) (hs : PySem.W.subIn K t (.ref C) = some b) (hb : b = false → (t == .ref C) = false) : PySem.W.kitOne K t (.ref C) = some b := by
  obtain ⟨cd, hc, _⟩ := PySem.W.any_some hd
  have e2 : ((PySem.W.clsIn K C).isSome && PySem.W.typeIn K (.ref C) == some (.type "type")) = true := by rw [hc, ht]; rfl
  have e3 : PySem.W.kitCls K t (.ref C) = some b := by
    show (if ((PySem.W.clsIn K C).isSome && PySem.W.typeIn K (.ref C) == some (.type "type")) = true then PySem.W.subIn K t (.ref C) else none) = some b
    rw [if_pos e2]; exact hs
  unfold PySem.W.kitOne
  cases c : (t == Value.ref C) with
  | true =>
    cases b with
    | true => rw [if_pos rfl]
    | false => rw [hb rfl] at c; cases c
  | false => rw [if_neg (by decide)]; exact e3
/-- what isinstance of an error of one's own asks of its class -/
structure IsC (K : PySem.W.Frag) (C : Addr) : Prop where
  x : ExcC K C
  t : PySem.W.typeIn K (.ref C) = some (.type "type")
  n : PySem.W.subIn K (.type "NoneType") (.ref C) = some false
theorem IsC.none {K : PySem.W.Frag} {C : Addr} (h : IsC K C) : PySem.W.kitOne K (.type "NoneType") (.ref C) = some false := kit_own h.x.hd h.t h.n fun _ => rfl
theorem IsC.self {K : PySem.W.Frag} {C : Addr} (h : IsC K C) (s : PySem.W.subIn K (.ref C) (.ref C) = some true) : PySem.W.kitOne K (.ref C) (.ref C) = some true := kit_own h.x.hd h.t s fun z => nomatch z
end Fld
namespace Fld
open PySem PySem.Spec PyProof.Rows L2
theorem ixK {r : PySem.W.Frag → R2} {K : PySem.W.Frag} {X : Cx} (h : IxR X (r X.K)) (e : X.K = K := by rfl) : IxR X (r K) := e ▸ h
theorem opK {r : PySem.W.Frag → R2} {K : PySem.W.Frag} {X : Cx} {o : Value → Value → Sem Value} (h : OpR X o (r X.K)) (e : X.K = K := by rfl) : OpR X o (r K) := e ▸ h
theorem clK {r : PySem.W.Frag → List V → Hp → VK → Prop} {K : PySem.W.Frag} {X : Cx} {f : Value} (h : CallR X f (r X.K)) (e : X.K = K := by rfl) : CallR X f (r K) := e ▸ h
end Fld
/-! == of any value with a text, in among texts, a tuple with (), a tuple turned about -/
namespace Fld
open PySem PySem.Spec PyProof.Rows L2
section
variable {A : Around} {s : Shared} {l : Addr} {o : Obj} {es : Array DictEntry} {n : Nat}
theorem dict_declines {P : Program} {w : World} {E : Value → Shared → Prop} {z : Str} {u : Tok} (hT : s.TypeIs (.ref l) "dict") (Q : Value → Shared → Prop) (q : Q .notImplemented s) : wpAny (model P w) A (call (.builtin "dict.__eq__") [.ref l, .str z u]) Q E s := by
  refine wpAny_call_entry PySem.F.slot_dict_eq hT PySem.F.entry_dict_eq ?_ (PySem.F.args_dict_eq_2 _ _)
  show wpAny _ _ (Builtin.Dict.dictSlotArgs "__eq__" ⟨[.ref l, .str z u], []⟩ >>= _) _ _ s
  refine wpAny_bind ?_
  unfold Builtin.Dict.dictSlotArgs
  refine wpAny_bind (wpAny_notOrdered_dict hT ?_)
  show wpAny _ _ (pure (Value.ref l, Value.str z u)) _ _ s
  refine wpAny_pure ?_
  refine wpAny_bind (wpAny_isInstance (T := "str") (typeIs_str s z u) PySem.F.sub_str_dict ?_)
  simp only [Bool.not_false, if_true]
  exact wpAny_bind (wpAny_rule (wpAny_bind (wpAny_pure (wpAny_pure ⟨_, rfl, q⟩))))
end
end Fld
namespace Fld
open PySem PySem.Spec PyProof.Rows L2
open PySem.MeetsSeq
theorem str_dict_declines (b : Str) (u : Tok) (l : Addr) (c : Value) (es : Array DictEntry) (ep : Nat) (dd : Option Addr) (sl : Array (Option Value)) :
    Meets (Builtin.«str.__eq__» ⟨[.str b u, .ref l], []⟩) (fun _ R s => s.heap.get? l = some { cls := c, dict := dd, data := .dict es ep, slots := sl } ∧ R (.ok (.ret .notImplemented)) s) := .of_wp fun P w A R s h => by
  obtain ⟨hp, g, d, tk, os⟩ := s
  obtain ⟨hl, h⟩ := h
  wp_walk using PySem.AutoSeq1.wpAny_loadPart' hl, wpAny_load hl
  exact ⟨_, rfl, h⟩
section
variable {A : Around} {s : Shared} {l : Addr} {o : Obj}
theorem rc_dict_str {es : Array DictEntry} {ep : Nat} (z : Str) (u : Tok) (ho : s.heap.get? l = some o) (ex : o.ExactDict) (hd : o.data = .dict es ep) (hu : A.units < cLine) : SeqAt.RcAt A s (.ref l) (.str z u) false := fun P w E Q h => by
  obtain ⟨cls, dd, data, sl⟩ := o
  obtain ⟨hc, _, _⟩ := ex
  simp only at hc hd
  subst hc hd
  exact SeqAt.rc_eq_decline_or (k := false) ⟨_, ho, rfl⟩ (typeIs_str s z u) (by decide) PySem.F.sub_str_dict PySem.F.slot_dict_eq PySem.F.slot_str_eq_refl
    (fun Q' hq => dict_declines ⟨_, ho, rfl⟩ Q' hq)
    (fun _ hq => call_meets PySem.F.slot_str_eq_refl (typeIs_str s z u) PySem.F.entry_str_eq (PySem.F.args_str_eq_2 _ _) (str_dict_declines z u l _ es ep dd sl) ⟨ho, hq⟩)
    (fun _ hq => wpAny_of_eq (rfl : isSame (.ref l) (.str z u) = pure false) hq) (.inr hu) h
theorem rc_str_dict {es : Array DictEntry} {ep : Nat} (z : Str) (u : Tok) (ho : s.heap.get? l = some o) (ex : o.ExactDict) (hd : o.data = .dict es ep) (hu : A.units < cLine) : SeqAt.RcAt A s (.str z u) (.ref l) false := fun P w E Q h => by
  obtain ⟨cls, dd, data, sl⟩ := o
  obtain ⟨hc, _, _⟩ := ex
  simp only at hc hd
  subst hc hd
  exact SeqAt.rc_eq_decline_or (k := false) (typeIs_str s z u) ⟨_, ho, rfl⟩ (by decide) PySem.F.sub_dict_str PySem.F.slot_str_eq PySem.F.slot_dict_eq_refl
    (fun _ hq => call_meets PySem.F.slot_str_eq (typeIs_str s z u) PySem.F.entry_str_eq (PySem.F.args_str_eq_2 _ _) (str_dict_declines z u l _ es ep dd sl) ⟨ho, hq⟩)
    (fun Q' hq => dict_declines ⟨_, ho, rfl⟩ Q' hq)
    (fun _ hq => wpAny_of_eq (rfl : isSame (.str z u) (.ref l) = pure false) hq) (.inr hu) h
theorem eq_str_dict {es : Array DictEntry} {ep : Nat} (z : Str) (u : Tok) (ho : s.heap.get? l = some o) (ex : o.ExactDict) (hd : o.data = .dict es ep) (hu : A.units < cLine) : SeqAt.EqAt A s (.str z u) (.ref l) false := fun P w E Q h => by
  unfold eqBool
  refine wpAny_holding (wpAny_ite_split (fun hab => absurd (eq_of_beq hab) nofun) (fun _ => ?_))
  exact wpAny_bind (rc_str_dict z u ho ex hd hu P w E _ (wpAny_truthy_bool h))
end
def isS : PyData → Str → Bool
  | .str x, z => decide (x = z)
  | _, _ => false
section
variable {X : Cx} {pins : List (Addr × Obj)} {σ : L2.St} {H : Hp} {s : Shared}
theorem beqStr (a b : Str) : (a == b) = decide (a = b) := by
  rw [Bool.eq_iff_iff, beq_iff_eq, decide_eq_true_iff]
theorem dv_rc {A : Around} (I : Inv X pins σ H s) (hu : A.units + 64 < cLine) {v : V} {u : Value} {d : PyData} (h : Dv X.K H v d) (r : RelV v u) (z : Str) (t : Tok) : SeqAt.RcAt A s u (.str z t) (isS d z) := by
  have hu1 : A.units < cLine := by omega
  cases h with
  | non => cases r; exact SeqAt.RcAt.none_str z t
  | bl b => cases r; exact SeqAt.RcAt.bool_str b z t
  | int i => obtain ⟨t', rfl⟩ := r; exact SeqAt.RcAt.int_str i t' z t
  | str x =>
    obtain ⟨t', rfl⟩ := r
    have := SeqAt.RcAt.str_str (A := A) (s := s) x t' z t
    rw [beqStr] at this
    exact this
  | lst hs ha =>
    cases r
    obtain ⟨its, rv, pl, _⟩ := I.list hs
    exact SeqAt.RcAt.list_str z t pl.isList hu1
  | tup hs ha =>
    cases r
    obtain ⟨its, rv, pl, _⟩ := I.tuple hs
    exact SeqAt.RcAt.tuple_str z t pl hu1
  | dic hs he ha =>
    cases r
    obtain ⟨_, hy, vs, kv, ⟨o, es, ep, ho, ex, hd, _, pr, _⟩⟩ := dk_of I.hok hs
    exact rc_dict_str z t ho ex hd hu1
theorem dv_eq {A : Around} (I : Inv X pins σ H s) (hu : A.units + 64 < cLine) {v : V} {u : Value} {d : PyData} (h : Dv X.K H v d) (r : RelV v u) (z : Str) (t : Tok) : SeqAt.EqAt A s (.str z t) u (isS d z) := by
  have hu1 : A.units < cLine := by omega
  cases h with
  | non => cases r; exact SeqAt.EqAt.str_none z t
  | bl b => cases r; exact SeqAt.EqAt.str_bool z t b
  | int i => obtain ⟨t', rfl⟩ := r; exact SeqAt.EqAt.str_int z t i t'
  | str x =>
    obtain ⟨t', rfl⟩ := r
    have := SeqAt.EqAt.str_str (A := A) (s := s) z t x t'
    rw [beqStr] at this
    have e : isS (.str x) z = decide (z = x) := decide_eq_decide.mpr ⟨Eq.symm, Eq.symm⟩
    rw [e]
    exact this
  | lst hs ha =>
    cases r
    obtain ⟨its, rv, pl, _⟩ := I.list hs
    exact SeqAt.EqAt.str_list z t pl.isList hu1
  | tup hs ha =>
    cases r
    obtain ⟨its, rv, pl, _⟩ := I.tuple hs
    exact SeqAt.EqAt.str_tuple z t pl hu1
  | dic hs he ha =>
    cases r
    obtain ⟨_, hy, vs, kv, ⟨o, es, ep, ho, ex, hd, _, pr, _⟩⟩ := dk_of I.hok hs
    exact eq_str_dict z t ho ex hd hu1
end
def rEqV (K : PySem.W.Frag) : R2 := fun x y H Q => ∃ d z, Dv K H x d ∧ y = .str z ∧ Q (.bl (isS d z)) H
theorem op_eqV {X : Cx} (hu : X.A.units + 64 < cLine) : OpR X (compareOp .Eq) (rEqV X.K) := by
  intro pins s σ H x y v u Q I rx ry h
  obtain ⟨d, z, hd, rfl, q⟩ := h
  obtain ⟨t, rfl⟩ := ry
  exact dv_rc I hu hd rx z t X.prog X.w _ _ ⟨.bl _, H, I, rfl, q⟩
/-- x in a tuple of texts -/
def rInV (K : PySem.W.Frag) : R2 := fun x y H Q => ∃ (d : PyData) (p : Addr) (zs : List Str), Dv K H x d ∧ y = .ref p ∧ SqT K H p (zs.map V.str) ∧ Q (.bl (zs.any fun z => isS d z)) H
theorem strs_any {d : PyData} : ∀ {zs : List Str} {us : List Value}, Vals (zs.map V.str) us → us.any (fun u => match u with | .str z _ => isS d z | _ => false) = zs.any fun z => isS d z
  | [], _, h => by cases h; rfl
  | z :: zs, _, h => by
    cases h with
    | cons r t =>
      obtain ⟨k, rfl⟩ := r
      rw [List.any_cons, List.any_cons, strs_any t]
theorem strs_mem : ∀ {zs : List Str} {us : List Value}, Vals (zs.map V.str) us → ∀ u ∈ us, ∃ z t, u = .str z t
  | [], _, h, u, hu => by cases h; cases hu
  | z :: zs, _, h, u, hu => by
    cases h with
    | cons r t =>
      rcases List.mem_cons.mp hu with rfl | hu
      · obtain ⟨k, rfl⟩ := r; exact ⟨z, k, rfl⟩
      · exact strs_mem t u hu
theorem op_inV {X : Cx} (hu : X.A.units + 65 < cLine) : OpR X (compareOp .In) (rInV X.K) := by
  intro pins s σ H x y v u Q I rx ry h
  obtain ⟨d, p, zs, hd, rfl, hp, q⟩ := h
  cases ry
  obtain ⟨its, r, pl, hz⟩ := I.tuple hp
  refine SeqAt.in_tupleAt (fun u => match u with | .str z _ => isS d z | _ => false) pl (fun w hw => ?_) ⟨.bl _, H, I, rfl, ?_⟩
  · obtain ⟨z, t, rfl⟩ := strs_mem r w (by simpa using hw)
    exact dv_eq I (by show X.A.units + 1 + 64 < cLine; omega) hd rx z t
  · rw [show its.toArray.any (fun u => match u with | .str z _ => isS d z | _ => false) = its.any (fun u => match u with | .str z _ => isS d z | _ => false) by simp, strs_any r]
    exact q
/-- a tuple and the empty one -/
def rEqE (K : PySem.W.Frag) : R2 := fun x y H Q => ∃ a b xs, x = .ref a ∧ y = .ref b ∧ SqT K H a xs ∧ SqT K H b [] ∧ Q (.bl xs.isEmpty) H
theorem op_eqE {X : Cx} (hu : X.A.units + 64 < cLine) : OpR X (compareOp .Eq) (rEqE X.K) := by
  intro pins s σ H x y v u Q I rx ry h
  obtain ⟨a, b, xs, rfl, rfl, ha, hb, q⟩ := h
  cases rx
  cases ry
  obtain ⟨its, r1, p1, _⟩ := I.tuple ha
  obtain ⟨its2, r2, p2, _⟩ := I.tuple hb
  cases r2
  have hl := r1.length
  refine SeqAt.RcAt.tuples (A := X.A) (e := fun _ => true) p1 p2 (by omega) (fun j _ h2 => absurd h2 (by simp)) X.prog X.w _ _ ⟨.bl xs.isEmpty, H, I, ?_, q⟩
  show Value.bool _ = Value.bool _
  congr 1
  cases xs with
  | nil => cases r1; rfl
  | cons _ _ => cases r1; simp
end Fld
/-! t[::-1] -/
namespace Fld
open PySem PySem.Spec PyProof.Rows L2
section
variable {prog : Program} {w : World} {A : Around} {E : Value → Shared → Prop} {s : Shared}
theorem adj_back (n : Nat) : Builtin.Slice.sliceAdjust none none (-1) (n : Int) = ((n : Int) - 1, -1) := by
  unfold Builtin.Slice.sliceAdjust
  simp
theorem places_back (n : Nat) : Builtin.Slice.slicePlaces ((n : Int) - 1) (-1) (-1) = n := by
  unfold Builtin.Slice.slicePlaces
  simp
  try omega
theorem applied_back {sl : Addr} {t : Tok} {n : Nat} {Q : Int × Int × Nat → Shared → Prop} (hs : s.heap.IsSliceOf sl .none .none (.int (-1) t))
    (h : Q ((n : Int) - 1, -1, n) s) : wpAny (model prog w) A (Builtin.Slice.sliceApplied (.ref sl) (pure (n : Int))) Q E s := by
  obtain ⟨os, hos, hcs, hds⟩ := id hs
  unfold Builtin.Slice.sliceApplied Builtin.Slice.sliceFields
  refine wpAny_bind (wpAny_bind (wpAny_field hos hds (x := .none) rfl (wpAny_bind (wpAny_field hos hds (x := .none) rfl (wpAny_bind (wpAny_field hos hds (x := .int (-1) t) rfl (wpAny_pure ?_)))))))
  refine wpAny_bind (HT.slicePart_ (.int (-1) t) ?_)
  show wpAny _ _ (if ((-1 : Int) == 0) = true then _ else _) _ _ s
  rw [if_neg (by decide)]
  refine wpAny_bind (HT.slicePart_ .none (wpAny_bind (HT.slicePart_ .none (wpAny_bind (wpAny_pure ?_)))))
  show wpAny _ _ (match Builtin.Slice.sliceAdjust none none (-1) (n : Int) with | (lo, hi) => pure (lo, (-1 : Int), Builtin.Slice.slicePlaces lo hi (-1))) _ _ s
  rw [adj_back n]
  show wpAny _ _ (pure ((n : Int) - 1, (-1 : Int), Builtin.Slice.slicePlaces ((n : Int) - 1) (-1) (-1))) _ _ s
  rw [places_back]
  exact wpAny_pure h
end
end Fld
namespace Fld
open PySem PySem.Spec PyProof.Rows L2
section
variable {prog : Program} {w : World} {A : Around} {E : Value → Shared → Prop} {s : Shared}
theorem filt_congr {α β : Type} {f g : α → Option β} : ∀ {l : List α}, (∀ x ∈ l, f x = g x) → l.filterMap f = l.filterMap g
  | [], _ => rfl
  | x :: l, h => by
    rw [List.filterMap_cons, List.filterMap_cons, h x (List.mem_cons_self ..), filt_congr fun y hy => h y (List.mem_cons_of_mem _ hy)]
theorem pick_back (xs : List Value) : ((List.range xs.length).filterMap fun (m : Nat) => xs.toArray[(((xs.length : Int) - 1) + (m : Int) * (-1)).toNat]?).toArray = xs.reverse.toArray := by
  congr 1
  have e : ∀ m ∈ List.range xs.length, xs.toArray[(((xs.length : Int) - 1) + (m : Int) * (-1)).toNat]? = some (xs.reverse.getD m .none) := by
    intro m hm
    have hm' := List.mem_range.mp hm
    have e1 : (((xs.length : Int) - 1) + (m : Int) * (-1)).toNat = xs.length - 1 - m := by omega
    rw [e1, List.getElem?_toArray, List.getD_eq_getElem?_getD, List.getElem?_reverse hm', List.getElem?_eq_getElem (by omega)]
    rfl
  rw [filt_congr e]
  have e2 : (List.range xs.length).filterMap (fun m => some (xs.reverse.getD m Value.none)) = (List.range xs.length).map fun m => xs.reverse.getD m Value.none := by
    rw [← List.filterMap_eq_map]; rfl
  rw [e2]
  have := range_map xs.reverse (fun c => c) Value.none
  rw [List.length_reverse, List.map_id'] at this
  exact this
theorem getItem_back {t sl : Addr} {xs : List Value} {tk : Tok} {Q : Value → Shared → Prop} (ht : IsTup s.heap t xs.toArray) (hs : s.heap.IsSliceOf sl .none .none (.int (-1) tk))
    (h : Q (.ref s.heap.objs.size) { s with heap := s.heap.push { cls := .type "tuple", data := .seq xs.reverse.toArray } }) (hsz : xs.length ≤ sizeLine) : wpAny (model prog w) A (getItem (.ref t) (.ref sl)) Q E s := by
  have fits : sizeOk (.seq xs.reverse.toArray) := by
    show xs.reverse.toArray.size ≤ sizeLine
    rw [List.size_toArray, List.length_reverse]
    exact hsz
  obtain ⟨os, hos, hcs, hds⟩ := id hs
  have hTs : s.TypeIs (.ref sl) "slice" := ⟨os, hos, hcs⟩
  unfold getItem
  try with_reducible refine wpAny_holding ?_
  first | refine wpAny_bind (wpAny_pure ?_) | skip
  refine wpAny_bind (wpAny_sequenceKey ht.typeIs (by decide) ?_)
  refine wpAny_bind (wpAny_callSpecial?_slot (name := Str.ofString "__getitem__") ht.typeIs PyProof.Rows.slot_tuple_getitem
    (wpAny_call_entry PyProof.Rows.slot_tuple_getitem ht.typeIs entry_tuple_getitem ?_ (args_tuple_getitem _ _)))
  show wpAny _ _ (Builtin.Tuple.tupleItemsOf (.ref t) >>= _) _ _ s
  refine wpAny_bind (tupleItemsOf_ ht ?_)
  refine wpAny_bind (wpAny_typeOf hTs ?_)
  rw [if_pos (by decide)]
  rw [List.size_toArray]
  refine wpAny_bind (applied_back hs ?_)
  have no : ¬ ((((xs.length : Int) - 1) == 0 && (-1 : Int) == 1 && xs.length == xs.length) = true) := by
    rw [show ((-1 : Int) == 1) = false from rfl, Bool.and_false, Bool.false_and]
    exact Bool.false_ne_true
  show wpAny _ _ (if ((((xs.length : Int) - 1) == 0 && (-1 : Int) == 1 && xs.length == xs.length) = true) then _ else _) _ _ s
  rw [if_neg no, pick_back]
  first
    | exact wpAny_bind (m := Builtin.Tuple.tupleExact _) (wpAny_newObj_type (wpAny_pure ⟨_, rfl, wpAny_pure h⟩) fits)
    | exact wpAny_bind (m := Builtin.Tuple.tupleExact _) (wpAny_newObj_type (wpAny_bind (wpAny_pure (wpAny_pure ⟨_, rfl, wpAny_pure h⟩))) fits)
    | exact wpAny_bind (wpAny_bind (m := Builtin.Tuple.tupleExact _) (wpAny_newObj_type (wpAny_pure (wpAny_pure ⟨_, rfl, wpAny_pure h⟩)) fits))
    | exact wpAny_bind (wpAny_bind (m := Builtin.Tuple.tupleExact _) (wpAny_newObj_type (wpAny_pure ⟨_, rfl, wpAny_pure h⟩) fits))
end
def tRevT (K : PySem.W.Frag) (te : TE) : TE := fun σ H Q => te σ H fun x H1 => ∃ a xs, x = .ref a ∧ SqT K H1 a xs ∧ ∀ p, H1 p = none → Q (.ref p) (upd H1 p (.tup xs.reverse))
theorem pe_revT {X : Cx} {e : Expr} {te : TE} {k : Nat} {p1 p2 p3 pos : Pos} (he : PE X e te) : PE X (.Subscript e (.Slice none none (some (.UnaryOp .USub (.Constant (.int 1) k p1) p2)) p3) pos) (tRevT X.K te) := by
  refine ⟨fun pins s σ H Q I h => Subscript_ (thn (he.run pins s σ H _ I h) fun v s1 ⟨x, H1, I1, r1, q1⟩ => ?_)⟩
  obtain ⟨a, xs, ex, hx, q⟩ := q1
  subst ex
  cases r1
  have third : PO X (some (.UnaryOp .USub (.Constant (.int 1) k p1) p2)) (tPart (tUn (rU fun i => .int (-i)) (tC (.int 1)))) := po_some (pe_un un_neg pe_int)
  refine wpAny_Slice (thn (po_none.run pins s1 σ H1 (fun o H2 => o = none ∧ H2 = H1) I1 ⟨rfl, rfl⟩) fun vl s2 ⟨l, H2, I2, pl, el, e2⟩ => ?_)
  subst el e2
  refine thn (po_none.run pins s2 σ H2 (fun o H3 => o = none ∧ H3 = H2) I2 ⟨rfl, rfl⟩) fun vu s3 ⟨m, H3, I3, pu, em, e3⟩ => ?_
  subst em e3
  refine thn (third.run pins s3 σ H3 (fun o H4 => o = some (-1) ∧ H4 = H3) I3 ⟨1, rfl, -1, rfl, rfl, rfl⟩) fun vs s4 ⟨o, H4, I4, ps, eo, e4⟩ => ?_
  subst eo e4
  cases pl
  cases pu
  obtain ⟨tk, rfl⟩ : ∃ tk, vs = .int (-1) tk := by cases ps with | int _ tk => exact ⟨tk, rfl⟩
  have I5 : Inv X pins σ H4 { s4 with heap := s4.heap.push { cls := .type "slice", data := .fields #[.none, .none, .int (-1) tk] } } := I4.kept (t' := s4.toks) fun b ob q => Heap.get?_push_of_some _ q
  obtain ⟨its, r, ht, hz⟩ := I5.tuple hx
  have hlen := r.length
  show wpAny (model X.prog X.w) X.A (subscriptTail e (.Slice none none (some (.UnaryOp .USub (.Constant (.int 1) k p1) p2)) p3) (.ref a) (.ref s4.heap.objs.size)) (EP X pins σ Q) X.xe { s4 with heap := s4.heap.push { cls := .type "slice", data := .fields #[.none, .none, .int (-1) tk] } }
  refine tail_any (ops := [.ref a, .ref s4.heap.objs.size]) ht.typeIs PyProof.Rows.slot_tuple_getitem.lookup ?_ (by with_unfolding_all rfl)
  refine getItem_back ht (Heap.IsSliceOf.new _ .none .none (.int (-1) tk)) ?_ (by omega)
  refine ⟨.ref _, _, I5.laid (t' := s4.toks) (o := .tup xs.reverse) (fun b ob q => Heap.get?_push_of_some _ q) (Nat.le_refl _) ?_, rfl, q _ (I5.hok.fresh (Nat.le_refl _))⟩
  exact ⟨by rw [List.length_reverse]; exact hz, _, r.reverse, IsTup.new _ _⟩
end Fld
/-! Lines and blocks: their values, their octets, what is read of octets. -/
namespace Fld
open PySem PySem.Spec PyProof.Rows L2
inductive Ln where
  | fix1 (n : Nat) | fix2 (n : Nat) (x : Str) | ent1 (n : Nat) | ent2 (n : Nat) (x : Str) | out (y x : Str)
def Ln.vs : Ln → List V
  | .fix1 n => [.str "fixed", .int n]
  | .fix2 n x => [.str "fixed", .int n, .str x]
  | .ent1 n => [.str "entry", .int n]
  | .ent2 n x => [.str "entry", .int n, .str x]
  | .out y x => [.str "out", .str y, .str x]
def Ln.Ok (req : Nat) : Ln → Prop
  | .fix1 n => n ≤ 9999
  | .fix2 n x => n ≤ 9999 ∧ txt (.str x) 0 40 = true
  | .ent1 n => n < req
  | .ent2 n x => n < req ∧ txt (.str x) 0 40 = true
  | .out y x => txt (.str y) 1 20 = true ∧ txt (.str x) 0 40 = true
def wholeOct (base n : Nat) : List Int := if n < base then numOct (base - n - 1) 3 128 else numOct (n - base) 2 16
def namedOct (base n : Nat) : List Int := if n < base then numOct (base - n - 1) 3 64 else numOct (n - base) 2 0
def Ln.oct (base : Nat) : Ln → List Int
  | .fix1 n => numOct n 6 192
  | .fix2 n x => numOct n 4 96 ++ strOct x 7 0
  | .ent1 n => wholeOct base n
  | .ent2 n x => namedOct base n ++ strOct x 7 0
  | .out y x => strOct y 4 32 ++ strOct x 7 0
def LnV (K : PySem.W.Frag) (H : Hp) (v : V) (l : Ln) : Prop := ∃ a, v = .ref a ∧ SqT K H a l.vs
structure Blk where
  req : Nat
  base : Nat
  ls : List Ln
structure Blk.Ok (b : Blk) : Prop where
  req_ : b.req ≤ 9999
  base_ : b.base ≤ b.req
  len_ : b.ls.length ≤ 16
  lns_ : ∀ l : Ln, l ∈ b.ls → l.Ok b.req
def lnsOct (base : Nat) (ls : List Ln) : List Int := (ls.map (Ln.oct base)).flatten
def Blk.oct (b : Blk) : List Int := (numOct b.req 8 0 ++ numOct (b.req - b.base) 8 0) ++ lnsOct b.base b.ls
inductive LnsV (K : PySem.W.Frag) (H : Hp) : List V → List Ln → Prop
  | nil : LnsV K H [] []
  | cons {x : V} {xs : List V} {l : Ln} {ls : List Ln} : LnV K H x l → LnsV K H xs ls → LnsV K H (x :: xs) (l :: ls)
def BlkV (K : PySem.W.Frag) (H : Hp) (v : V) (b : Blk) : Prop := ∃ (a t : Addr) (xs : List V), v = .ref a ∧ SqT K H a [.int b.req, .int b.base, .ref t] ∧ SqT K H t xs ∧ LnsV K H xs b.ls
theorem LnV.keep {K : PySem.W.Frag} {H H' : Hp} {v : V} {l : Ln} (s : Same H H') (h : LnV K H v l) : LnV K H' v l := let ⟨a, e, h⟩ := h; ⟨a, e, s.tup h⟩
theorem LnsV.keep {K : PySem.W.Frag} {H H' : Hp} (s : Same H H') : ∀ {xs : List V} {ls : List Ln}, LnsV K H xs ls → LnsV K H' xs ls
  | _, _, .nil => .nil
  | _, _, .cons h t => .cons (h.keep s) (t.keep s)
theorem BlkV.keep {K : PySem.W.Frag} {H H' : Hp} {v : V} {b : Blk} (s : Same H H') (h : BlkV K H v b) : BlkV K H' v b := let ⟨a, t, xs, e, h1, h2, h3⟩ := h; ⟨a, t, xs, e, s.tup h1, s.tup h2, h3.keep s⟩
theorem LnsV.len {K : PySem.W.Frag} {H : Hp} : ∀ {xs : List V} {ls : List Ln}, LnsV K H xs ls → xs.length = ls.length
  | _, _, .nil => rfl
  | _, _, .cons _ t => by rw [List.length_cons, List.length_cons, t.len]
theorem LnsV.at_ {K : PySem.W.Frag} {H : Hp} : ∀ {xs : List V} {ls : List Ln} {i : Nat} {x : V}, LnsV K H xs ls → xs[i]? = some x → ∃ l, ls[i]? = some l ∧ LnV K H x l
  | _, _, _, _, .nil, e => by simp at e
  | _, _, 0, _, .cons h _, e => by simp at e; subst e; exact ⟨_, rfl, h⟩
  | _, _, i + 1, x, .cons _ t, e => by
    obtain ⟨l, h1, h2⟩ := t.at_ (i := i) (x := x) (by simpa using e)
    exact ⟨l, by simpa using h1, h2⟩
def sp_is_line (K : PySem.W.Frag) : Sp := fun vs H Q _ => ∃ (v : V) (l : Ln) (r : Nat), vs = [v, .int r] ∧ LnV K H v l ∧ l.Ok r ∧ ∀ H', Same H H' → Q (.bl true) H'
def sp_is_block (K : PySem.W.Frag) : Sp := fun vs H Q _ => ∃ (v : V) (b : Blk), vs = [v] ∧ BlkV K H v b ∧ b.Ok ∧ ∀ H', Same H H' → Q (.bl true) H'
def sp_line_octets (K : PySem.W.Frag) : Sp := fun vs H Q _ => ∃ (v : V) (l : Ln) (base r : Nat), vs = [v, .int base] ∧ LnV K H v l ∧ l.Ok r ∧ r ≤ 9999 ∧ base ≤ r ∧ RetInts (l.oct base) H Q
def sp_write_block (K : PySem.W.Frag) : Sp := fun vs H Q _ => ∃ (v : V) (b : Blk), vs = [v] ∧ BlkV K H v b ∧ b.Ok ∧ RetInts b.oct H Q
def sp_whole_octets (named : Bool) : Sp := fun vs H Q _ => ∃ (c : Str) (n base : Nat), vs = [.str c, .int n, .int base] ∧ n ≤ 9999 ∧ base ≤ 9999 ∧
  ((c = "fixed" ∧ RetInts (if named then numOct n 4 96 else numOct n 6 192) H Q) ∨ (c = "entry" ∧ RetInts (if named then namedOct base n else wholeOct base n) H Q))
theorem wholeOct_len {base n : Nat} (h1 : base ≤ 9999) (h2 : n ≤ 9999) : (wholeOct base n).length ≤ 10001 := by
  unfold wholeOct
  by_cases h : n < base
  · rw [if_pos h]; have := numOct_len (base - n - 1) 3 128; omega
  · rw [if_neg h]; have := numOct_len (n - base) 2 16; omega
theorem namedOct_len {base n : Nat} (h1 : base ≤ 9999) (h2 : n ≤ 9999) : (namedOct base n).length ≤ 10001 := by
  unfold namedOct
  by_cases h : n < base
  · rw [if_pos h]; have := numOct_len (base - n - 1) 3 64; omega
  · rw [if_neg h]; have := numOct_len (n - base) 2 0; omega
theorem ln_len {base r : Nat} {l : Ln} (ok : l.Ok r) (hr : r ≤ 9999) (hb : base ≤ r) : (l.oct base).length ≤ 10101 := by
  cases l with
  | fix1 n => have h : n ≤ 9999 := ok; have := numOct_len n 6 192; show (numOct n 6 192).length ≤ _; omega
  | fix2 n x => have h := ok.1; have := numOct_len n 4 96; have := strOct_len (b := 7) (m := 0) (txt_len ok.2); show (numOct n 4 96 ++ strOct x 7 0).length ≤ _; rw [List.length_append]; omega
  | ent1 n => have h : n < r := ok; have := wholeOct_len (base := base) (n := n) (by omega) (by omega); show (wholeOct base n).length ≤ _; omega
  | ent2 n x => have h := ok.1; have := namedOct_len (base := base) (n := n) (by omega) (by omega); have := strOct_len (b := 7) (m := 0) (txt_len ok.2); show (namedOct base n ++ strOct x 7 0).length ≤ _; rw [List.length_append]; omega
  | out y x => have := strOct_len (b := 4) (m := 32) (txt_len (txt_20 ok.1)); have := strOct_len (b := 7) (m := 0) (txt_len ok.2); show (strOct y 4 32 ++ strOct x 7 0).length ≤ _; rw [List.length_append]; omega
theorem lns_succ {base i : Nat} {ls : List Ln} {l : Ln} (h : ls[i]? = some l) : lnsOct base (ls.take (i + 1)) = lnsOct base (ls.take i) ++ l.oct base := by
  unfold lnsOct
  rw [List.take_add_one, h]
  simp
theorem lns_len {base r : Nat} (hr : r ≤ 9999) (hb : base ≤ r) : ∀ (ls : List Ln), (∀ l ∈ ls, l.Ok r) → (lnsOct base ls).length ≤ 10101 * ls.length
  | [], _ => Nat.le_refl _
  | l :: ls, h => by
    have h1 := ln_len (base := base) (h l (List.mem_cons_self ..)) hr hb
    have h2 := lns_len hr hb ls (fun x hx => h x (List.mem_cons_of_mem _ hx))
    have e : lnsOct base (l :: ls) = l.oct base ++ lnsOct base ls := rfl
    rw [e, List.length_append, List.length_cons]
    omega
theorem lns_take_len {base r i : Nat} {ls : List Ln} (hr : r ≤ 9999) (hb : base ≤ r) (h : ∀ l ∈ ls, l.Ok r) (hn : ls.length ≤ 16) : (lnsOct base (ls.take i)).length ≤ 170000 := by
  have h1 := lns_len (base := base) hr hb (ls.take i) (fun l hl => h l (List.mem_of_mem_take hl))
  have h2 : (ls.take i).length ≤ 16 := by rw [List.length_take]; omega
  omega
end Fld
/-! reading lines and blocks: the mirror -/
namespace Fld
open PySem PySem.Spec PyProof.Rows L2
def takeWhole (os : List Int) (req base : Nat) (k : Nat) : Except Nat (Ln × Nat) :=
  match os[k]? with
  | none => .error k
  | some o => if 192 ≤ o then (takeNum os 6 192 0 9999 k).map fun z => (.fix1 z.1.toNat, z.2)
    else if 128 ≤ o then (takeNum os 3 128 0 ((base : Int) - 1) k).map fun z => (.ent1 ((base : Int) - 1 - z.1).toNat, z.2)
    else (takeNum os 2 16 0 ((req : Int) - base - 1) k).map fun z => (.ent1 ((base : Int) + z.1).toNat, z.2)
def takeNamed (os : List Int) (req base : Nat) (k : Nat) : Except Nat ((Bool × Nat) × Nat) :=
  match os[k]? with
  | none => .error k
  | some o => if 96 ≤ o then (takeNum os 4 96 0 9999 k).map fun z => ((true, z.1.toNat), z.2)
    else if 64 ≤ o then (takeNum os 3 64 0 ((base : Int) - 1) k).map fun z => ((false, ((base : Int) - 1 - z.1).toNat), z.2)
    else (takeNum os 2 0 0 ((req : Int) - base - 1) k).map fun z => ((false, ((base : Int) + z.1).toNat), z.2)
def namedLn (x : Str) : Bool × Nat → Ln
  | (true, n) => .fix2 n x
  | (false, n) => .ent2 n x
def takeLine (os : List Int) (req base : Nat) (k : Nat) : Except Nat (Ln × Nat) :=
  match os[k]? with
  | none => .error k
  | some o => if 128 ≤ o ∨ (16 ≤ o ∧ o < 32) then takeWhole os req base k
    else if 32 ≤ o ∧ o < 64 then
      (match takeStr os 4 32 1 20 k with
      | .error e => .error e
      | .ok (y, k1) => (takeStr os 7 0 0 40 k1).map fun z => (.out y z.1, z.2))
    else
      (match takeNamed os req base k with
      | .error e => .error e
      | .ok (s, k1) => (takeStr os 7 0 0 40 k1).map fun z => (namedLn z.1 s, z.2))
def takeLines (os : List Int) (req base : Nat) : Nat → Nat → Except Nat (List Ln × Nat)
  | 0, k => .ok ([], k)
  | n + 1, k => if k = os.length then .ok ([], k) else
    match takeLine os req base k with
    | .error e => .error e
    | .ok (l, k1) => (takeLines os req base n k1).map fun z => (l :: z.1, z.2)
def takeBlk (os : List Int) (k : Nat) : Except Nat (Blk × Nat) :=
  match takeNum os 8 0 0 9999 k with
  | .error e => .error e
  | .ok (r, k1) =>
    match takeNum os 8 0 0 r k1 with
    | .error e => .error e
    | .ok (d, k2) => (takeLines os r.toNat (r - d).toNat 16 k2).map fun z => (⟨r.toNat, (r - d).toNat, z.1⟩, z.2)
def rLn (K : PySem.W.Frag) : Ln → V → Hp → Prop := fun l v H => LnV K H v l
def rNm (K : PySem.W.Frag) : Bool × Nat → V → Hp → Prop := fun s v H => ∃ a, v = .ref a ∧ SqT K H a [.str (if s.1 then "fixed" else "entry"), .int s.2]
def rBlk (K : PySem.W.Frag) : Blk → V → Hp → Prop := fun b v H => BlkV K H v b
def sp_takeL (K : PySem.W.Frag) (C N : Addr) {α : Type} (f : List Int → Nat → Nat → Nat → Except Nat (α × Nat)) (R : α → V → Hp → Prop) : Sp := fun vs H Q E => ∃ (r a : Addr) (os : List Int) (k req base : Nat), vs = [.ref r, .int req, .int base] ∧ Rd K C H r a os k ∧ base ≤ req ∧ req ≤ 9999 ∧ RdRes K C N r a os H Q E R (f os req base k)
theorem sqT_but {K : PySem.W.Frag} {H H' : Hp} {p a : Addr} {xs : List V} (h : SqT K H a xs) (b : But p H H') (n1 : ∀ ys, H p ≠ some (.tup ys)) (n2 : ∀ o w, H p ≠ some (.frz o w)) : SqT K H' a xs := by
  rcases h with (h | ⟨o, h⟩) | h
  · exact .inl (.inl (b a _ (fun e => n1 _ (e ▸ h)) h))
  · exact .inl (.inr ⟨o, b a _ (fun e => n2 _ _ (e ▸ h)) h⟩)
  · exact .inr h
theorem lns_but {K : PySem.W.Frag} {H H' : Hp} {p : Addr} (b : But p H H') (n1 : ∀ ys, H p ≠ some (.tup ys)) (n2 : ∀ o w, H p ≠ some (.frz o w)) : ∀ {xs : List V} {ls : List Ln}, LnsV K H xs ls → LnsV K H' xs ls
  | _, _, .nil => .nil
  | _, _, .cons ⟨a, e, h⟩ t => .cons ⟨a, e, sqT_but h b n1 n2⟩ (lns_but b n1 n2 t)
theorem lns_app {K : PySem.W.Frag} {H : Hp} {v : V} {l : Ln} (h : LnV K H v l) : ∀ {xs : List V} {ls : List Ln}, LnsV K H xs ls → LnsV K H (xs ++ [v]) (ls ++ [l])
  | _, _, .nil => .cons h .nil
  | _, _, .cons h1 t => .cons h1 (lns_app h t)
end Fld
/-! what is written of a block is read again -/
namespace Fld
open PySem PySem.Spec PyProof.Rows L2
theorem head_at {pre os suf : List Int} {o : Int} {l : List Int} (h : os = o :: l) : (pre ++ (os ++ suf))[pre.length]? = some o := by
  rw [h, List.getElem?_append_right (Nat.le_refl _), Nat.sub_self]
  rfl
theorem p7 : ((2 ^ 7 - 1 : Nat) : Int) = 127 := rfl
theorem p6 : ((2 ^ 6 - 1 : Nat) : Int) = 63 := rfl
theorem p4 : ((2 ^ 4 - 1 : Nat) : Int) = 15 := rfl
theorem p3 : ((2 ^ 3 - 1 : Nat) : Int) = 7 := rfl
theorem p2 : ((2 ^ 2 - 1 : Nat) : Int) = 3 := rfl
theorem line_named {pre no suf : List Int} {x : Str} {req base : Nat} {s : Bool × Nat} {o : Int} {l : List Int} (hh : no = o :: l) (h0 : o < 16 ∨ (64 ≤ o ∧ o < 128)) (hx : txt (.str x) 0 40 = true) (hn : takeNamed (pre ++ (no ++ (strOct x 7 0 ++ suf))) req base pre.length = .ok (s, pre.length + no.length)) :
    takeLine (pre ++ ((no ++ strOct x 7 0) ++ suf)) req base pre.length = .ok (namedLn x s, pre.length + (no ++ strOct x 7 0).length) := by
  have h40 := txt_len hx
  have e1 : pre ++ ((no ++ strOct x 7 0) ++ suf) = pre ++ (no ++ (strOct x 7 0 ++ suf)) := by rw [List.append_assoc]
  rw [e1]
  unfold takeLine
  rw [head_at hh]
  dsimp only
  rw [if_neg (by omega), if_neg (by omega), hn]
  dsimp only
  have := takeStr_oct x 7 0 0 40 (pre ++ no) suf (txt_all hx) (by omega) (by omega) (by decide) (by decide)
  rw [List.append_assoc, List.length_append] at this
  rw [this]
  refine congrArg Except.ok (Prod.ext rfl ?_)
  show pre.length + no.length + (strOct x 7 0).length = pre.length + (no ++ strOct x 7 0).length
  rw [List.length_append]
  omega
theorem line_oct {pre suf : List Int} {req base : Nat} (hr : req ≤ 9999) (hb : base ≤ req) (l : Ln) (ok : l.Ok req) : takeLine (pre ++ (l.oct base ++ suf)) req base pre.length = .ok (l, pre.length + (l.oct base).length) := by
  have P6 := p6
  have P4 := p4
  have P3 := p3
  have P2 := p2
  cases l with
  | fix1 n =>
    have hn : n ≤ 9999 := ok
    obtain ⟨o, t, e, h1, h2⟩ := numOct_head n 6 192
    have e0 : (Ln.fix1 n).oct base = numOct n 6 192 := rfl
    rw [e0]
    unfold takeLine takeWhole
    rw [head_at e]
    dsimp only
    rw [if_pos (.inl (by omega)), if_pos (by omega), takeNum_oct n 6 192 0 9999 pre suf (by omega) (by omega) (by decide) (by decide)]
    show Except.ok (Ln.fix1 ((n : Nat) : Int).toNat, _) = _
    rw [Int.toNat_natCast]
  | fix2 n x =>
    obtain ⟨o, t, e, h1, h2⟩ := numOct_head n 4 96
    have h9 := ok.1
    refine line_named (s := (true, n)) e (by omega) ok.2 ?_
    unfold takeNamed
    rw [head_at e]
    dsimp only
    rw [if_pos (by omega), takeNum_oct n 4 96 0 9999 pre _ (by omega) (by omega) (by decide) (by decide)]
    show Except.ok ((true, ((n : Nat) : Int).toNat), _) = _
    rw [Int.toNat_natCast]
  | ent1 n =>
    have hn : n < req := ok
    have e0 : (Ln.ent1 n).oct base = wholeOct base n := rfl
    rw [e0]
    unfold wholeOct
    by_cases hlt : n < base
    · rw [if_pos hlt]
      obtain ⟨o, t, e, h1, h2⟩ := numOct_head (base - n - 1) 3 128
      unfold takeLine takeWhole
      rw [head_at e]
      dsimp only
      rw [if_pos (.inl (by omega)), if_neg (by omega), if_pos (by omega), takeNum_oct (base - n - 1) 3 128 0 ((base : Int) - 1) pre suf (by omega) (by omega) (by decide) (by omega)]
      show Except.ok (Ln.ent1 ((base : Int) - 1 - ((base - n - 1 : Nat) : Int)).toNat, _) = _
      rw [show ((base : Int) - 1 - ((base - n - 1 : Nat) : Int)).toNat = n by omega]
    · rw [if_neg hlt]
      obtain ⟨o, t, e, h1, h2⟩ := numOct_head (n - base) 2 16
      unfold takeLine takeWhole
      rw [head_at e]
      dsimp only
      rw [if_pos (.inr ⟨by omega, by omega⟩), if_neg (by omega), if_neg (by omega), takeNum_oct (n - base) 2 16 0 ((req : Int) - base - 1) pre suf (by omega) (by omega) (by decide) (by omega)]
      show Except.ok (Ln.ent1 ((base : Int) + ((n - base : Nat) : Int)).toNat, _) = _
      rw [show ((base : Int) + ((n - base : Nat) : Int)).toNat = n by omega]
  | ent2 n x =>
    have hn := ok.1
    have e0 : (Ln.ent2 n x).oct base = namedOct base n ++ strOct x 7 0 := rfl
    rw [e0]
    unfold namedOct
    by_cases hlt : n < base
    · rw [if_pos hlt]
      obtain ⟨o, t, e, h1, h2⟩ := numOct_head (base - n - 1) 3 64
      refine line_named (s := (false, n)) e (by omega) ok.2 ?_
      unfold takeNamed
      rw [head_at e]
      dsimp only
      rw [if_neg (by omega), if_pos (by omega), takeNum_oct (base - n - 1) 3 64 0 ((base : Int) - 1) pre _ (by omega) (by omega) (by decide) (by omega)]
      show Except.ok ((false, ((base : Int) - 1 - ((base - n - 1 : Nat) : Int)).toNat), _) = _
      rw [show ((base : Int) - 1 - ((base - n - 1 : Nat) : Int)).toNat = n by omega]
    · rw [if_neg hlt]
      obtain ⟨o, t, e, h1, h2⟩ := numOct_head (n - base) 2 0
      refine line_named (s := (false, n)) e (by omega) ok.2 ?_
      unfold takeNamed
      rw [head_at e]
      dsimp only
      rw [if_neg (by omega), if_neg (by omega), takeNum_oct (n - base) 2 0 0 ((req : Int) - base - 1) pre _ (by omega) (by omega) (by decide) (by omega)]
      show Except.ok ((false, ((base : Int) + ((n - base : Nat) : Int)).toNat), _) = _
      rw [show ((base : Int) + ((n - base : Nat) : Int)).toNat = n by omega]
  | out y x =>
    obtain ⟨o, t, e, h1, h2⟩ := strOct_head y 4 32
    have h40 := txt_len ok.2
    have h20 := txt_len20 ok.1
    have e0 : (Ln.out y x).oct base = strOct y 4 32 ++ strOct x 7 0 := rfl
    rw [e0, show pre ++ ((strOct y 4 32 ++ strOct x 7 0) ++ suf) = pre ++ (strOct y 4 32 ++ (strOct x 7 0 ++ suf)) by rw [List.append_assoc]]
    unfold takeLine
    rw [head_at e]
    dsimp only
    rw [if_neg (by omega), if_pos ⟨by omega, by omega⟩, takeStr_oct y 4 32 1 20 pre _ (txt_all ok.1) (by omega) (by omega) (by decide) (by decide)]
    dsimp only
    have := takeStr_oct x 7 0 0 40 (pre ++ strOct y 4 32) suf (txt_all ok.2) (by omega) (by omega) (by decide) (by decide)
    rw [List.append_assoc, List.length_append] at this
    rw [this]
    refine congrArg Except.ok (Prod.ext rfl ?_)
    show pre.length + (strOct y 4 32).length + (strOct x 7 0).length = pre.length + (strOct y 4 32 ++ strOct x 7 0).length
    rw [List.length_append]
    omega
theorem ln_pos {base : Nat} (l : Ln) : 0 < (l.oct base).length := by
  have hd : ∀ {os : List Int}, (∃ o t, os = o :: t) → 0 < os.length := fun ⟨o, t, e⟩ => by rw [e]; exact Nat.succ_pos _
  have nm : ∀ n b m, 0 < (numOct n b m).length := fun n b m => hd (let ⟨o, t, e, _⟩ := numOct_head n b m; ⟨o, t, e⟩)
  have st : ∀ x b m, 0 < (strOct x b m).length := fun x b m => hd (let ⟨o, t, e, _⟩ := strOct_head x b m; ⟨o, t, e⟩)
  cases l with
  | fix1 n => exact nm _ _ _
  | fix2 n x => show 0 < (numOct n 4 96 ++ strOct x 7 0).length; rw [List.length_append]; have := st x 7 0; omega
  | ent1 n => show 0 < (wholeOct base n).length; unfold wholeOct; split <;> exact nm _ _ _
  | ent2 n x => show 0 < (namedOct base n ++ strOct x 7 0).length; rw [List.length_append]; have := st x 7 0; omega
  | out y x => show 0 < (strOct y 4 32 ++ strOct x 7 0).length; rw [List.length_append]; have := st x 7 0; omega
theorem lines_oct {req base : Nat} (hr : req ≤ 9999) (hb : base ≤ req) : ∀ (ls : List Ln) (N : Nat) (pre : List Int), (∀ l ∈ ls, l.Ok req) → ls.length ≤ N → takeLines (pre ++ lnsOct base ls) req base N pre.length = .ok (ls, (pre ++ lnsOct base ls).length)
  | [], N, pre, _, _ => by
    have e : pre ++ lnsOct base [] = pre := List.append_nil _
    rw [e]
    cases N with
    | zero => rfl
    | succ n => rw [takeLines, if_pos rfl]
  | l :: ls, 0, pre, _, h => absurd h (Nat.not_succ_le_zero _)
  | l :: ls, n + 1, pre, ok, h => by
    have e : lnsOct base (l :: ls) = l.oct base ++ lnsOct base ls := rfl
    have hp := ln_pos (base := base) l
    rw [e, takeLines, if_neg (by rw [List.length_append, List.length_append]; omega), line_oct hr hb l (ok l (List.mem_cons_self ..))]
    dsimp only
    have ih := lines_oct hr hb ls n (pre ++ l.oct base) (fun x hx => ok x (List.mem_cons_of_mem _ hx)) (Nat.le_of_succ_le_succ h)
    rw [List.append_assoc, List.length_append] at ih
    rw [ih]
    rfl
theorem whole_blk (b : Blk) (ok : b.Ok) : whole b.oct takeBlk = .ok b := by
  have o1 := ok.req_
  have o2 := ok.base_
  obtain ⟨req, base, ls⟩ := b
  refine whole_of ?_
  dsimp only at o1 o2
  have o3 := ok.len_
  have o4 := ok.lns_
  dsimp only at o3 o4
  have e0 : (Blk.mk req base ls).oct = numOct req 8 0 ++ (numOct (req - base) 8 0 ++ lnsOct base ls) := by
    show (numOct req 8 0 ++ numOct (req - base) 8 0) ++ lnsOct base ls = _
    rw [List.append_assoc]
  have h1 := takeNum0 req 8 0 0 9999 (numOct (req - base) 8 0 ++ lnsOct base ls) (by omega) (by omega) (by decide) (by decide)
  have h2 := takeNum_oct (req - base) 8 0 0 (req : Int) (numOct req 8 0) (lnsOct base ls) (by omega) (by omega) (by decide) (by omega)
  have h3 := lines_oct (pre := numOct req 8 0 ++ numOct (req - base) 8 0) o1 o2 ls 16 o4 o3
  unfold takeBlk
  rw [e0, h1]
  dsimp only
  rw [h2]
  dsimp only
  rw [List.append_assoc, List.length_append] at h3
  have eb : ((req : Int) - ((req - base : Nat) : Int)).toNat = base := by omega
  rw [Int.toNat_natCast, eb, h3]
  rfl
end Fld
/-! lines and blocks as data; how the laws draw them -/
namespace Fld
open PySem PySem.Spec PyProof.Rows L2
def Ln.dat : Ln → PyData
  | .fix1 n => .tuple [.str "fixed", .int n]
  | .fix2 n x => .tuple [.str "fixed", .int n, .str x]
  | .ent1 n => .tuple [.str "entry", .int n]
  | .ent2 n x => .tuple [.str "entry", .int n, .str x]
  | .out y x => .tuple [.str "out", .str y, .str x]
def Blk.dat (b : Blk) : PyData := .tuple [.int b.req, .int b.base, .tuple (b.ls.map Ln.dat)]
theorem dp_ln {K : PySem.W.Frag} {H : Hp} {a : Addr} {l : Ln} (h : SqT K H a l.vs) : Dp K H (.ref a) l.dat := by
  cases l with
  | fix1 n => exact .tup h (.cons (.str _) (.cons (.int _) .nil))
  | fix2 n x => exact .tup h (.cons (.str _) (.cons (.int _) (.cons (.str _) .nil)))
  | ent1 n => exact .tup h (.cons (.str _) (.cons (.int _) .nil))
  | ent2 n x => exact .tup h (.cons (.str _) (.cons (.int _) (.cons (.str _) .nil)))
  | out y x => exact .tup h (.cons (.str _) (.cons (.str _) (.cons (.str _) .nil)))
theorem dp_lns {K : PySem.W.Frag} {H : Hp} : ∀ {xs : List V} {ls : List Ln}, LnsV K H xs ls → DpAll K H xs (ls.map Ln.dat)
  | _, _, .nil => .nil
  | _, _, .cons ⟨_, e, h⟩ t => .cons (e ▸ dp_ln h) (dp_lns t)
theorem dp_blk {K : PySem.W.Frag} {H : Hp} {v : V} {b : Blk} (h : BlkV K H v b) : Dp K H v b.dat := by
  obtain ⟨a, t, xs, rfl, h1, h2, h3⟩ := h
  exact .tup h1 (.cons (.int _) (.cons (.int _) (.cons (.tup h2 (dp_lns h3)) .nil)))
theorem dle_ln (n : Nat) (l : Ln) : DLe (n + 1) l.dat := by
  cases l with
  | fix1 k => exact dle_2 (dle_str _ _) (dle_int _ _)
  | fix2 k x => exact dle_3 (dle_str _ _) (dle_int _ _) (dle_str _ _)
  | ent1 k => exact dle_2 (dle_str _ _) (dle_int _ _)
  | ent2 k x => exact dle_3 (dle_str _ _) (dle_int _ _) (dle_str _ _)
  | out y x => exact dle_3 (dle_str _ _) (dle_str _ _) (dle_str _ _)
theorem dle_blk (n : Nat) {b : Blk} (ok : b.Ok) : DLe (n + 3) b.dat := by
  refine dle_3 (dle_int _ _) (dle_int _ _) ⟨?_, fun d hd => ?_⟩
  · rw [List.length_map]; have := ok.len_; omega
  · obtain ⟨l, _, rfl⟩ := List.mem_map.mp hd
    exact dle_ln n l
theorem okD_ln {r : Nat} {l : Ln} (hr : r ≤ 9999) (ok : l.Ok r) : okD l.dat = true ∧ wD l.dat ≤ 5000 := by
  cases l with
  | fix1 n =>
    refine ⟨?_, by show 10 * 5 + 2 + 2 + (1010 + 2 + 0) + 4 ≤ 5000; decide⟩
    show (okD (.str "fixed") && (okD (.int (n : Nat)) && true)) = true
    rw [okD_nat ok]; decide +kernel
  | ent1 n =>
    have h : n < r := ok
    refine ⟨?_, by show 10 * 5 + 2 + 2 + (1010 + 2 + 0) + 4 ≤ 5000; decide⟩
    show (okD (.str "entry") && (okD (.int (n : Nat)) && true)) = true
    rw [okD_nat (by omega)]; decide +kernel
  | fix2 n x =>
    have hx := txt_len ok.2
    refine ⟨?_, by show 10 * 5 + 2 + 2 + (1010 + 2 + (10 * x.length + 2 + 2 + 0)) + 4 ≤ 5000; omega⟩
    show (okD (.str "fixed") && (okD (.int (n : Nat)) && (okD (.str x) && true))) = true
    rw [okD_nat ok.1, okD_str (txt_all ok.2)]; decide +kernel
  | ent2 n x =>
    have hx := txt_len ok.2
    have h := ok.1
    refine ⟨?_, by show 10 * 5 + 2 + 2 + (1010 + 2 + (10 * x.length + 2 + 2 + 0)) + 4 ≤ 5000; omega⟩
    show (okD (.str "entry") && (okD (.int (n : Nat)) && (okD (.str x) && true))) = true
    rw [okD_nat (by omega), okD_str (txt_all ok.2)]; decide +kernel
  | out y x =>
    have hx := txt_len ok.2
    have hy := txt_len20 ok.1
    refine ⟨?_, by show 10 * 3 + 2 + 2 + (10 * y.length + 2 + 2 + (10 * x.length + 2 + 2 + 0)) + 4 ≤ 5000; omega⟩
    show (okD (.str "out") && (okD (.str y) && (okD (.str x) && true))) = true
    rw [okD_str (txt_all ok.1), okD_str (txt_all ok.2)]; decide +kernel
theorem okD_lns {r : Nat} (hr : r ≤ 9999) : ∀ {ls : List Ln}, (∀ l ∈ ls, l.Ok r) → okAll (ls.map Ln.dat) = true ∧ wAll (ls.map Ln.dat) ≤ 5002 * ls.length
  | [], _ => ⟨rfl, Nat.le_refl _⟩
  | l :: ls, h => by
    have h1 := okD_ln hr (h l (List.mem_cons_self ..))
    have h2 := okD_lns hr (ls := ls) fun x hx => h x (List.mem_cons_of_mem _ hx)
    refine ⟨?_, ?_⟩
    · show (okD l.dat && okAll (ls.map Ln.dat)) = true
      rw [h1.1, h2.1]; rfl
    · show wD l.dat + 2 + wAll (ls.map Ln.dat) ≤ 5002 * (ls.length + 1)
      have := h1.2
      have := h2.2
      omega
theorem okD_blk {b : Blk} (ok : b.Ok) : okD b.dat = true ∧ wD b.dat ≤ 10000000 := by
  have h := okD_lns ok.req_ ok.lns_
  have h1 := ok.req_
  have h2 := ok.base_
  have h3 := ok.len_
  refine ⟨?_, ?_⟩
  · show (okD (.int (b.req : Nat)) && (okD (.int (b.base : Nat)) && (okAll (b.ls.map Ln.dat) && true))) = true
    rw [okD_nat h1, okD_nat (by omega), h.1]; rfl
  · show 1010 + 2 + (1010 + 2 + (wAll (b.ls.map Ln.dat) + 4 + 2 + 0)) + 4 ≤ 10000000
    have := h.2
    omega
theorem blk_len {b : Blk} (ok : b.Ok) : b.oct.length ≤ 1000000 ∧ b.oct.length ≤ 200000 := by
  have h := lns_len ok.req_ ok.base_ b.ls ok.lns_
  have h1 := ok.req_
  have h2 := ok.base_
  have h3 := ok.len_
  have l1 := numOct_len b.req 8 0
  have l2 := numOct_len (b.req - b.base) 8 0
  unfold Blk.oct
  rw [List.length_append, List.length_append]
  omega
theorem ln_octs {base r : Nat} {l : Ln} (ok : l.Ok r) : ∀ o ∈ l.oct base, 0 ≤ o ∧ o < 256 := by
  cases l with
  | fix1 n => exact numOct_oct (by decide)
  | fix2 n x => exact app_oct (numOct_oct (by decide)) (strOct_oct (by decide) (txt_all ok.2))
  | ent1 n => show ∀ o ∈ wholeOct base n, _; unfold wholeOct; split <;> exact numOct_oct (by decide)
  | ent2 n x =>
    refine app_oct ?_ (strOct_oct (by decide) (txt_all ok.2))
    unfold namedOct; split <;> exact numOct_oct (by decide)
  | out y x => exact app_oct (strOct_oct (by decide) (txt_all ok.1)) (strOct_oct (by decide) (txt_all ok.2))
theorem lns_octs {base r : Nat} : ∀ {ls : List Ln}, (∀ l ∈ ls, l.Ok r) → ∀ o ∈ lnsOct base ls, 0 ≤ o ∧ o < 256
  | [], _ => fun o ho => nomatch ho
  | l :: ls, h => app_oct (ln_octs (h l (List.mem_cons_self ..))) (lns_octs (ls := ls) fun x hx => h x (List.mem_cons_of_mem _ hx))
theorem blk_octs {b : Blk} (ok : b.Ok) : ∀ o ∈ b.oct, 0 ≤ o ∧ o < 256 := app_oct (app_oct (numOct_oct (by decide)) (numOct_oct (by decide))) (lns_octs ok.lns_)
def sp_law_draw_line : Sp := fun vs H Q _ => ∃ (p c : Addr) (n req : Nat), vs = [.ref p, .int req] ∧ Pen H p c n ∧ n ≤ 700000 ∧ req ≤ 9999 ∧ ∀ (a : Addr) (l : Ln) H', H' a = some (.tup l.vs) → l.Ok req → Drew p c H H' (n + 200) → Q (.ref a) H'
def sp_law_draw_block (K : PySem.W.Frag) : Sp := fun vs H Q _ => ∃ (p c : Addr) (n : Nat), vs = [.ref p] ∧ Pen H p c n ∧ n ≤ 600000 ∧ ∀ v (b : Blk) H', BlkV K H' v b → b.Ok → Drew p c H H' (n + 4000) → Q v H'
theorem restOct_len2 {r : Nat} (h : r < 16384) : (restOct r).length ≤ 2 := by
  by_cases h1 : r < 128
  · rw [restOct_lt h1]; show 1 ≤ 2; decide
  · rw [restOct_ge h1, restOct_lt (show r / 128 < 128 by omega)]; show 2 ≤ 2; decide
theorem numOct_len3 {n b m : Nat} (h : n ≤ 9999) : (numOct n b m).length ≤ 3 := by
  unfold numOct
  by_cases h1 : n < 2 ^ b - 1
  · rw [if_pos h1]; show 1 ≤ 3; decide
  · rw [if_neg h1, List.length_cons]
    have := restOct_len2 (r := n - (2 ^ b - 1)) (by omega)
    omega
theorem strOct_len2 {x : Str} {b m : Nat} (h : x.length ≤ 40) : (strOct x b m).length ≤ 43 := by
  unfold strOct
  have := numOct_len3 (n := x.length) (b := b) (m := m) (by omega)
  rw [List.length_append, List.length_map, ← str_len]
  omega
theorem ln_len2 {base r : Nat} {l : Ln} (ok : l.Ok r) (hr : r ≤ 9999) (hb : base ≤ r) : (l.oct base).length ≤ 90 := by
  cases l with
  | fix1 n => have h : n ≤ 9999 := ok; have := numOct_len3 (b := 6) (m := 192) h; show (numOct n 6 192).length ≤ _; omega
  | fix2 n x => have := numOct_len3 (b := 4) (m := 96) ok.1; have := strOct_len2 (b := 7) (m := 0) (txt_len ok.2); show (numOct n 4 96 ++ strOct x 7 0).length ≤ _; rw [List.length_append]; omega
  | ent1 n =>
    have h : n < r := ok
    show (wholeOct base n).length ≤ _
    unfold wholeOct
    split
    · have := numOct_len3 (n := base - n - 1) (b := 3) (m := 128) (by omega); omega
    · have := numOct_len3 (n := n - base) (b := 2) (m := 16) (by omega); omega
  | ent2 n x =>
    have h := ok.1
    have := strOct_len2 (b := 7) (m := 0) (txt_len ok.2)
    show (namedOct base n ++ strOct x 7 0).length ≤ _
    rw [List.length_append]
    unfold namedOct
    split
    · have := numOct_len3 (n := base - n - 1) (b := 3) (m := 64) (by omega); omega
    · have := numOct_len3 (n := n - base) (b := 2) (m := 0) (by omega); omega
  | out y x => have := strOct_len2 (b := 4) (m := 32) (txt_len (txt_20 ok.1)); have := strOct_len2 (b := 7) (m := 0) (txt_len ok.2); show (strOct y 4 32 ++ strOct x 7 0).length ≤ _; rw [List.length_append]; omega
theorem lns_len2 {base r : Nat} (hr : r ≤ 9999) (hb : base ≤ r) : ∀ (ls : List Ln), (∀ l ∈ ls, l.Ok r) → (lnsOct base ls).length ≤ 90 * ls.length
  | [], _ => Nat.le_refl _
  | l :: ls, h => by
    have h1 := ln_len2 (base := base) (h l (List.mem_cons_self ..)) hr hb
    have h2 := lns_len2 hr hb ls (fun x hx => h x (List.mem_cons_of_mem _ hx))
    have e : lnsOct base (l :: ls) = l.oct base ++ lnsOct base ls := rfl
    rw [e, List.length_append, List.length_cons]
    omega
theorem blk_len2 {b : Blk} (ok : b.Ok) : b.oct.length ≤ 2000 := by
  have h := lns_len2 ok.req_ ok.base_ b.ls ok.lns_
  have h1 := ok.req_
  have h2 := ok.base_
  have h3 := ok.len_
  have l1 := numOct_len3 (b := 8) (m := 0) h1
  have l2 := numOct_len3 (n := b.req - b.base) (b := 8) (m := 0) (by omega)
  unfold Blk.oct
  rw [List.length_append, List.length_append]
  omega
end Fld
/-! what a line, a block is, over data of any kind -/
namespace Fld
open PySem PySem.Spec PyProof.Rows L2
def dLine (req : Int) : PyData → Bool
  | .tuple [k, n] => if isS k "fixed" then dBtw n 0 9999 else isS k "entry" && dBtw n 0 (req - 1)
  | .tuple [k, n, x] => dTxt x 0 40 && (if isS k "fixed" then dBtw n 0 9999 else if isS k "entry" then dBtw n 0 (req - 1) else isS k "out" && dTxt n 1 20)
  | _ => false
def dBlk3 : PyData → PyData → PyData → Bool
  | .int r, b, .tuple ls => dBtw (.int r) 0 9999 && dBtw b 0 r && decide (ls.length ≤ 16) && ls.all (dLine r)
  | _, _, _ => false
def dBlock : PyData → Bool
  | .tuple [r, b, l] => dBlk3 r b l
  | _ => false
def sp_chkLn (K : PySem.W.Frag) : Sp := fun vs H Q _ => ∃ (v : V) (d : PyData) (r : Int), vs = [v, .int r] ∧ Dv K H v d ∧ Lim d ∧ ∀ H', Same H H' → Q (.bl (dLine r d)) H'
/-- a write that refuses what is none -/
def sp_write_any (K : PySem.W.Frag) (N : Addr) (f : PyData → Bool) : Sp := fun vs H Q E => ∃ (v : V) (d : PyData), vs = [v] ∧ Dv K H v d ∧ Lim d ∧ (f d = true → ∀ v' H', Same H H' → Q v' H') ∧ (f d = false → ∀ H', Same H H' → E (.ref N) none H')
/-- refused, or not -/
def sp_refused (K : PySem.W.Frag) (f : PyData → Bool) : Sp := fun vs H Q _ => ∃ (v : V) (d : PyData), vs = [v] ∧ Dv K H v d ∧ Lim d ∧ ∀ H', Same H H' → Q (.bl (!f d)) H'
theorem dLine_ne {r : Int} {ds : List PyData} (h2 : ds.length ≠ 2) (h3 : ds.length ≠ 3) : dLine r (.tuple ds) = false := by
  match ds, h2, h3 with
  | [], _, _ => rfl
  | [_], _, _ => rfl
  | [_, _], h, _ => exact absurd rfl h
  | [_, _, _], _, h => exact absurd rfl h
  | _ :: _ :: _ :: _ :: _, _, _ => rfl
theorem dLine_no {r : Int} {d : PyData} (e : subT (tyD d) "tuple" = false) : dLine r d = false := by
  rw [sub_tup] at e
  cases d <;> first | rfl | cases e
theorem dBlock_no {d : PyData} (e : subT (tyD d) "tuple" = false) : dBlock d = false := by
  rw [sub_tup] at e
  cases d <;> first | rfl | cases e
theorem dBlock_ne {ds : List PyData} (h : ds.length ≠ 3) : dBlock (.tuple ds) = false := by
  match ds, h with
  | [], _ => rfl
  | [_], _ => rfl
  | [_, _], _ => rfl
  | [_, _, _], h => exact absurd rfl h
  | _ :: _ :: _ :: _ :: _, _ => rfl
theorem blk3_num {r b l : PyData} (e : dBtw r 0 9999 = false) : dBlk3 r b l = false := by
  cases r <;> first | rfl | skip
  cases l <;> first | rfl | skip
  show (dBtw _ 0 9999 && _ && _ && _) = false
  rw [e]; rfl
theorem btw_int {d : PyData} {a b : Int} (e : dBtw d a b = true) : ∃ i : Int, d = .int i ∧ a ≤ i ∧ i ≤ b := by
  cases d <;> first | (cases e; done) | skip
  rename_i i
  have e' : (decide (a ≤ i) && decide (i ≤ b)) = true := e
  rw [Bool.and_eq_true, decide_eq_true_eq, decide_eq_true_eq] at e'
  exact ⟨i, rfl, e'.1, e'.2⟩
theorem isS_str {d : PyData} {z : Str} (e : isS d z = true) : d = .str z := by
  cases d <;> first | (cases e; done) | skip
  rename_i x
  have : x = z := of_decide_eq_true e
  rw [this]
theorem txt_str {d : PyData} {a b : Int} (e : dTxt d a b = true) : ∃ x, d = .str x ∧ txt (.str x) a b = true := by
  cases d <;> first | (cases e; done) | skip
  rename_i x
  exact ⟨x, rfl, e⟩
theorem Dv.sInt {K : PySem.W.Frag} {H : Hp} {v : V} {i : Int} (h : Dv K H v (.int i)) : v = .int i := by cases h; rfl
theorem Dv.sStr {K : PySem.W.Frag} {H : Hp} {v : V} {x : Str} (h : Dv K H v (.str x)) : v = .str x := by cases h; rfl
theorem Dv.sTup {K : PySem.W.Frag} {H : Hp} {v : V} {ds : List PyData} (h : Dv K H v (.tuple ds)) : ∃ a xs, v = .ref a ∧ SqT K H a xs ∧ DvAll K H xs ds := by
  cases h with
  | tup hs ha => exact ⟨_, _, rfl, hs, ha⟩
theorem Dv.sLst {K : PySem.W.Frag} {H : Hp} {v : V} {ds : List PyData} (h : Dv K H v (.list ds)) : ∃ a xs, v = .ref a ∧ SqL K H a xs ∧ DvAll K H xs ds := by
  cases h with
  | lst hs ha => exact ⟨_, _, rfl, hs, ha⟩
theorem ln_of {K : PySem.W.Frag} {H : Hp} {v : V} {d : PyData} {r : Nat} (h : Dv K H v d) (e : dLine r d = true) : ∃ l : Ln, LnV K H v l ∧ l.Ok r := by
  match d, h, e with
  | .tuple [k, n], h, e =>
    obtain ⟨a, xs, rfl, hs, ha⟩ := h.sTup
    obtain ⟨x0, x1, d0, d1, rfl, e2, h0, h1⟩ := len2 ha (by rw [ha.len]; rfl)
    injection e2 with e3 e4
    injection e4 with e4 _
    subst e3 e4
    have e' : (if isS k "fixed" = true then dBtw n 0 9999 else isS k "entry" && dBtw n 0 ((r : Int) - 1)) = true := e
    by_cases c : isS k "fixed" = true
    · rw [if_pos c] at e'
      obtain ⟨i, rfl, i0, i1⟩ := btw_int e'
      have := isS_str c; subst this
      have := h0.sStr; subst this
      have := h1.sInt; subst this
      obtain ⟨m, rfl⟩ : ∃ m : Nat, i = (m : Int) := ⟨i.toNat, by omega⟩
      exact ⟨.fix1 m, ⟨a, rfl, hs⟩, by show m ≤ 9999; omega⟩
    · rw [if_neg c, Bool.and_eq_true] at e'
      obtain ⟨i, rfl, i0, i1⟩ := btw_int e'.2
      have := isS_str e'.1; subst this
      have := h0.sStr; subst this
      have := h1.sInt; subst this
      obtain ⟨m, rfl⟩ : ∃ m : Nat, i = (m : Int) := ⟨i.toNat, by omega⟩
      exact ⟨.ent1 m, ⟨a, rfl, hs⟩, by show m < r; omega⟩
  | .tuple [k, n, x], h, e =>
    obtain ⟨a, xs, rfl, hs, ha⟩ := h.sTup
    obtain ⟨x0, x1, x2, d0, d1, d2, rfl, e2, h0, h1, h2⟩ := len3 ha (by rw [ha.len]; rfl)
    injection e2 with e3 e4
    injection e4 with e4 e5
    injection e5 with e5 _
    subst e3 e4 e5
    have e' : (dTxt x 0 40 && (if isS k "fixed" = true then dBtw n 0 9999 else if isS k "entry" = true then dBtw n 0 ((r : Int) - 1) else isS k "out" && dTxt n 1 20)) = true := e
    rw [Bool.and_eq_true] at e'
    obtain ⟨y, rfl, hy⟩ := txt_str e'.1
    have := h2.sStr; subst this
    have e6 := e'.2
    by_cases c : isS k "fixed" = true
    · rw [if_pos c] at e6
      obtain ⟨i, rfl, i0, i1⟩ := btw_int e6
      have := isS_str c; subst this
      have := h0.sStr; subst this
      have := h1.sInt; subst this
      obtain ⟨m, rfl⟩ : ∃ m : Nat, i = (m : Int) := ⟨i.toNat, by omega⟩
      exact ⟨.fix2 m y, ⟨a, rfl, hs⟩, by omega, hy⟩
    · rw [if_neg c] at e6
      by_cases c2 : isS k "entry" = true
      · rw [if_pos c2] at e6
        obtain ⟨i, rfl, i0, i1⟩ := btw_int e6
        have := isS_str c2; subst this
        have := h0.sStr; subst this
        have := h1.sInt; subst this
        obtain ⟨m, rfl⟩ : ∃ m : Nat, i = (m : Int) := ⟨i.toNat, by omega⟩
        exact ⟨.ent2 m y, ⟨a, rfl, hs⟩, by omega, hy⟩
      · rw [if_neg c2, Bool.and_eq_true] at e6
        obtain ⟨z, rfl, hz⟩ := txt_str e6.2
        have := isS_str e6.1; subst this
        have := h0.sStr; subst this
        have := h1.sStr; subst this
        exact ⟨.out z y, ⟨a, rfl, hs⟩, hz, hy⟩
theorem lns_of {K : PySem.W.Frag} {H : Hp} {r : Nat} : ∀ {xs : List V} {ds : List PyData}, DvAll K H xs ds → ds.all (dLine r) = true → ∃ ls : List Ln, LnsV K H xs ls ∧ ∀ l ∈ ls, l.Ok r
  | _, _, .nil, _ => ⟨[], .nil, fun l hl => nomatch hl⟩
  | _, _, .cons h t, e => by
    rw [List.all_cons, Bool.and_eq_true] at e
    obtain ⟨l, hl, ok⟩ := ln_of h e.1
    obtain ⟨ls, hls, oks⟩ := lns_of t e.2
    refine ⟨l :: ls, .cons hl hls, fun x hx => ?_⟩
    rcases List.mem_cons.mp hx with rfl | hx
    · exact ok
    · exact oks x hx
theorem blk_of {K : PySem.W.Frag} {H : Hp} {v : V} {d : PyData} (h : Dv K H v d) (e : dBlock d = true) : ∃ b : Blk, BlkV K H v b ∧ b.Ok := by
  match d, h, e with
  | .tuple [r, b, l], h, e =>
    obtain ⟨a, xs, rfl, hs, ha⟩ := h.sTup
    obtain ⟨x0, x1, x2, d0, d1, d2, rfl, e2, h0, h1, h2⟩ := len3 ha (by rw [ha.len]; rfl)
    injection e2 with e3 e4
    injection e4 with e4 e5
    injection e5 with e5 _
    subst e3 e4 e5
    match r, b, l, e, h0, h1, h2 with
    | .int r, b, .tuple ls, e, h0, h1, h2 =>
      have e' : (dBtw (.int r) 0 9999 && dBtw b 0 r && decide (ls.length ≤ 16) && ls.all (dLine r)) = true := e
      rw [Bool.and_eq_true, Bool.and_eq_true, Bool.and_eq_true, decide_eq_true_eq] at e'
      obtain ⟨⟨⟨q1, q2⟩, q3⟩, q4⟩ := e'
      obtain ⟨i, ei, i0, i1⟩ := btw_int q1
      injection ei with ei; subst ei
      obtain ⟨j, rfl, j0, j1⟩ := btw_int q2
      have := h0.sInt; subst this
      have := h1.sInt; subst this
      obtain ⟨t, ys, rfl, ht, hy⟩ := h2.sTup
      obtain ⟨m, rfl⟩ : ∃ m : Nat, r = (m : Int) := ⟨r.toNat, by omega⟩
      obtain ⟨k, rfl⟩ : ∃ m : Nat, j = (m : Int) := ⟨j.toNat, by omega⟩
      obtain ⟨ks, hk, ok⟩ := lns_of hy q4
      refine ⟨⟨m, k, ks⟩, ⟨a, t, ys, rfl, hs, ht, hk⟩, by show m ≤ 9999; omega, by show k ≤ m; omega, ?_, ok⟩
      show ks.length ≤ 16
      have := hk.len
      have := hy.len
      omega
end Fld
namespace Fld
open PySem PySem.Spec PyProof.Rows L2
theorem in23 (n : Nat) : inV (.int (n : Nat)) [.int 2, .int 3] = (decide (n = 2) || decide (n = 3)) := by
  show (eqV (.int 2) (.int n) || (eqV (.int 3) (.int n) || false)) = _
  have h : ∀ m : Int, eqV (.int m) (.int (n : Int)) = decide ((n : Int) = m) := fun m => by
    show (m == (n : Int)) = _
    rw [Bool.eq_iff_iff, beq_iff_eq, decide_eq_true_iff]
    exact ⟨fun h => h.symm, fun h => h.symm⟩
  rw [h, h, Bool.or_false]
  congr 1
  · exact decide_eq_decide.mpr ⟨fun h => by omega, fun h => by omega⟩
  · exact decide_eq_decide.mpr ⟨fun h => by omega, fun h => by omega⟩
theorem in23_no {n : Nat} (e : (!inV (.int (n : Nat)) [.int 2, .int 3]) = true) : n ≠ 2 ∧ n ≠ 3 := by
  rw [in23] at e
  have e' := nb e
  rw [Bool.or_eq_false_iff, decide_eq_false_iff_not, decide_eq_false_iff_not] at e'
  exact e'
theorem in23_yes {n : Nat} (e : (!inV (.int (n : Nat)) [.int 2, .int 3]) = false) : n = 2 ∨ n = 3 := by
  rw [in23] at e
  have e' := nb' e
  rw [Bool.or_eq_true, decide_eq_true_iff, decide_eq_true_iff] at e'
  exact e'
end Fld
namespace Fld
open PySem PySem.Spec PyProof.Rows L2
theorem decS {a b : Str} : decide (V.str a = V.str b) = isS (.str a) b := by
  show _ = decide (a = b)
  exact decide_eq_decide.mpr ⟨fun h => by injection h, fun h => by rw [h]⟩
theorem isS_no {d : PyData} {z : Str} (e : subT (tyD d) "str" = false) : isS d z = false := by
  rw [sub_str] at e
  cases d <;> first | rfl | cases e
theorem isS_eq {d : PyData} {a b : Str} (e : isS d a = true) (h : decide (a = b) = false) : isS d b = false := by
  rw [isS_str e]; exact h
end Fld
/-! tuples by their data: slices, +, *, turned about -/
namespace Fld
open PySem PySem.Spec PyProof.Rows L2
section
variable {K : PySem.W.Frag} {S : List Addr} {H : Hp} {v u : V} {ds es : List PyData} {Q : VK}
theorem slA_to (k : Nat) (h : Dv K (OffS S H) v (.tuple ds)) (hS : Hid S H) (q : ∀ r H', Same H H' → Dv K (OffS S H') r (.tuple (ds.take k)) → Q r H') : rSlA K v none (some (k : Int)) H Q := by
  obtain ⟨a, xs, rfl, hs, ha⟩ := h.sTup
  have hl := ha.len
  refine ⟨a, xs, rfl, (off_sub S H).tup hs, fun w => ?_, fun _ p hp => ?_⟩
  · have h2 := w.2
    rw [HT.sIx_nat] at h2
    have hk : ds.take k = ds := List.take_of_length_le (by omega)
    refine q _ H (Same.refl _) ?_
    rw [hk]; exact .tup hs ha
  · rw [cut_to]
    exact q _ _ (Same.new hp) (new_tup hp hS (ha.take k))
theorem slA_from (k : Nat) (h : Dv K (OffS S H) v (.tuple ds)) (hS : Hid S H) (q : ∀ r H', Same H H' → Dv K (OffS S H') r (.tuple (ds.drop k)) → Q r H') : rSlA K v (some (k : Int)) none H Q := by
  obtain ⟨a, xs, rfl, hs, ha⟩ := h.sTup
  have hl := ha.len
  refine ⟨a, xs, rfl, (off_sub S H).tup hs, fun w => ?_, fun _ p hp => ?_⟩
  · have h2 := w.1
    rw [HT.sIx_nat] at h2
    refine q _ H (Same.refl _) ?_
    rcases Nat.eq_zero_or_pos k with h0 | h0
    · rw [h0, List.drop_zero]; exact .tup hs ha
    · have hx : xs = [] := List.length_eq_zero_iff.mp (by omega)
      subst hx
      cases ha
      rw [List.drop_nil]
      exact .tup hs .nil
  · rw [cut_from]
    exact q _ _ (Same.new hp) (new_tup hp hS (ha.drop k))
theorem catA (h : Dv K (OffS S H) v (.tuple ds)) (h2 : Dv K (OffS S H) u (.tuple es)) (hS : Hid S H) (hz : ds.length + es.length ≤ sizeLine) (q : ∀ r H', Same H H' → Dv K (OffS S H') r (.tuple (ds ++ es)) → Q r H') : rCatA K v u H Q := by
  obtain ⟨a, xs, rfl, hs, ha⟩ := h.sTup
  obtain ⟨b, ys, rfl, hs2, ha2⟩ := h2.sTup
  have hl := ha.len
  have hl2 := ha2.len
  refine ⟨a, b, xs, ys, rfl, rfl, (off_sub S H).tup hs, (off_sub S H).tup hs2, by omega, fun e => ?_, fun _ e => ?_, fun _ _ p hp => ?_⟩
  · subst e
    cases ha
    exact q _ H (Same.refl _) (.tup hs2 ha2)
  · subst e
    cases ha2
    refine q _ H (Same.refl _) ?_
    rw [List.append_nil]
    exact .tup hs ha
  · exact q _ _ (Same.new hp) (new_tup hp hS (ha.app ha2))
theorem repA {d : PyData} (k : Nat) (h : Dv K (OffS S H) v (.tuple [d])) (hS : Hid S H) (h2 : 2 ≤ k) (hk : k ≤ 1000) (q : ∀ r H', Same H H' → Dv K (OffS S H') r (.tuple (List.replicate k d)) → Q r H') : rRepT K v (.int (k : Int)) H Q := by
  obtain ⟨a, xs, rfl, hs, ha⟩ := h.sTup
  cases ha with
  | cons h1 t =>
    cases t
    rename_i x
    refine ⟨a, k, [x], rfl, rfl, (off_sub S H).tup hs, by simp, by omega, by omega, by show 1 ≤ 1000; decide, fun p hp => ?_⟩
    rw [Int.toNat_natCast]
    have e : (List.replicate k [x]).flatten = List.replicate k x := by
      clear hk h2 q
      induction k with
      | zero => rfl
      | succ n ih => rw [List.replicate_succ, List.flatten_cons, ih, List.replicate_succ]; rfl
    rw [e]
    exact q _ _ (Same.new hp) (new_tup hp hS (DvAll.rep h1 k))
theorem DvAll.rev {K : PySem.W.Frag} {H : Hp} : ∀ {xs : List V} {ds : List PyData}, DvAll K H xs ds → DvAll K H xs.reverse ds.reverse
  | _, _, .nil => .nil
  | _, _, .cons h t => by
    rw [List.reverse_cons, List.reverse_cons]
    exact (DvAll.rev t).app (.cons h .nil)
end
/-- a tuple's items but one -/
theorem depthAll_app {k : Nat} {xs ys : List PyData} (h1 : PyData.depthAll xs ≤ k) (h2 : PyData.depthAll ys ≤ k) : PyData.depthAll (xs ++ ys) ≤ k := depthAll_le fun d hd => by
  rcases List.mem_append.mp hd with h | h
  · exact Nat.le_trans (depthAll_mem h) h1
  · exact Nat.le_trans (depthAll_mem h) h2
theorem depthAll_take {k : Nat} {xs : List PyData} (n : Nat) (h : PyData.depthAll xs ≤ k) : PyData.depthAll (xs.take n) ≤ k := depthAll_le fun d hd => Nat.le_trans (depthAll_mem (List.mem_of_mem_take hd)) h
theorem depthAll_drop {k : Nat} {xs : List PyData} (n : Nat) (h : PyData.depthAll xs ≤ k) : PyData.depthAll (xs.drop n) ≤ k := depthAll_le fun d hd => Nat.le_trans (depthAll_mem (List.mem_of_mem_drop hd)) h
theorem okVAll_take {xs : List PyData} (n : Nat) (h : okVAll xs = true) : okVAll (xs.take n) = true := okVAll_of fun d hd => okVAll_mem h (List.mem_of_mem_take hd)
theorem okVAll_drop {xs : List PyData} (n : Nat) (h : okVAll xs = true) : okVAll (xs.drop n) = true := okVAll_of fun d hd => okVAll_mem h (List.mem_of_mem_drop hd)
theorem okVAll_app' {xs ys : List PyData} (h1 : okVAll xs = true) (h2 : okVAll ys = true) : okVAll (xs ++ ys) = true := by rw [okVAll_app, h1, h2]; rfl
theorem wVAll_cut {ds : List PyData} {k : Nat} {d : PyData} (h : ds[k]? = some d) : wVAll (ds.take k) + (wV d + 2) + wVAll (ds.drop (k + 1)) = wVAll ds := by
  have hk := (List.getElem?_eq_some_iff.mp h)
  have e : ds = ds.take k ++ (d :: ds.drop (k + 1)) := by
    rw [← hk.2, ← List.drop_eq_getElem_cons hk.1, List.take_append_drop]
  have e2 : wVAll ds = wVAll (ds.take k ++ (d :: ds.drop (k + 1))) := congrArg wVAll e
  rw [wVAll_app, wVAll] at e2
  omega
theorem wVAll_rep (d : PyData) : ∀ k : Nat, wVAll (List.replicate k d) = k * (wV d + 2)
  | 0 => by rw [List.replicate_zero, wVAll]; omega
  | k + 1 => by rw [List.replicate_succ, wVAll, wVAll_rep d k, Nat.succ_mul]; omega
theorem wVAll_rev : ∀ ds : List PyData, wVAll ds.reverse = wVAll ds
  | [] => rfl
  | d :: ds => by
    rw [List.reverse_cons, wVAll_app, wVAll_rev ds, wVAll, wVAll, wVAll]; omega
theorem okVAll_rep {d : PyData} (h : okV d = true) (k : Nat) : okVAll (List.replicate k d) = true := okVAll_of fun x hx => by rw [(List.mem_replicate.mp hx).2]; exact h
theorem depthAll_rep {n : Nat} {d : PyData} (h : d.depth ≤ n) (k : Nat) : PyData.depthAll (List.replicate k d) ≤ n := depthAll_le fun x hx => by rw [(List.mem_replicate.mp hx).2]; exact h
theorem okVAll_rev {ds : List PyData} (h : okVAll ds = true) : okVAll ds.reverse = true := okVAll_of fun x hx => okVAll_mem h (List.mem_reverse.mp hx)
theorem depthAll_rev {n : Nat} {ds : List PyData} (h : PyData.depthAll ds ≤ n) : PyData.depthAll ds.reverse ≤ n := depthAll_le fun x hx => Nat.le_trans (depthAll_mem (List.mem_reverse.mp hx)) h
def sp_bentT (K : PySem.W.Frag) (M : Nat) : Sp := fun vs H Q _ => ∃ (p c : Addr) (n : Nat) (v : V) (d : PyData) (b e : Nat) (S : List Addr), vs = [.ref p, v] ∧ Pen H p c n ∧ n + 100 * (e + 1) ≤ 600000 ∧ p ∈ S ∧ Hid S H ∧ Dv K (OffS S H) v d ∧ Sz b e d ∧ e ≤ M ∧ M ≤ 20 ∧ b ≤ 500000 ∧
  ∀ (v' : V) (d' : PyData) H', Dv K (OffS S H') v' d' → Sz (18 * b + 2000) (e + 1) d' → Drew p c H H' (n + 100 * (e + 1)) → Q v' H'
def sp_bentT_sub (K : PySem.W.Frag) : Nat → Sp
  | 0 => fun _ _ _ _ => False
  | m + 1 => sp_bentT K m
/-! data without lists, apart from the pen -/
mutual
def noLst : PyData → Bool
  | .list _ => false
  | .tuple xs => noLstAll xs
  | .dict _ => false
  | _ => true
def noLstAll : List PyData → Bool
  | [] => true
  | x :: xs => noLst x && noLstAll xs
end
theorem sqT_off {K : PySem.W.Frag} {H : Hp} {a p : Addr} {xs : List V} {ys : List V} (h : SqT K H a xs) (hp : H p = some (.lst ys)) : SqT K (OffS [p] H) a xs := by
  rcases h with (h | ⟨o, h⟩) | h
  · have n : a ∉ [p] := fun z => by rw [List.mem_singleton.mp z, hp] at h; cases h
    exact .inl (.inl (by rw [off_ne n]; exact h))
  · have n : a ∉ [p] := fun z => by rw [List.mem_singleton.mp z, hp] at h; cases h
    exact .inl (.inr ⟨o, by rw [off_ne n]; exact h⟩)
  · exact .inr h
mutual
theorem dp_off {K : PySem.W.Frag} {H : Hp} {p : Addr} {ys : List V} (hp : H p = some (.lst ys)) : ∀ {v : V} {d : PyData}, Dp K H v d → noLst d = true → Dv K (OffS [p] H) v d
  | _, _, .non, _ => .non
  | _, _, .bl b, _ => .bl b
  | _, _, .int i, _ => .int i
  | _, _, .str x, _ => .str x
  | _, _, .lst h a, n => by simp [noLst] at n
  | _, _, .tup h a, n => .tup (sqT_off h hp) (dpAll_off hp a (by simpa [noLst] using n))
theorem dpAll_off {K : PySem.W.Frag} {H : Hp} {p : Addr} {ys : List V} (hp : H p = some (.lst ys)) : ∀ {vs : List V} {ds : List PyData}, DpAll K H vs ds → noLstAll ds = true → DvAll K (OffS [p] H) vs ds
  | _, _, .nil, _ => .nil
  | _, _, .cons h t, n => by
    rw [noLstAll, Bool.and_eq_true] at n
    exact .cons (dp_off hp h n.1) (dpAll_off hp t n.2)
end
end Fld
/-! list(enumerate(t)), t a tuple -/
namespace PySem
open Sem (wp)
open PySem.W (kdx_alive)
section
variable {prog : Program} {w : World} {A : Around} {E : Value → Shared → Prop} {s : Shared}
theorem meets_enumerate_new1 {v : Value} {o : Obj} {H : Heap → Prop} (B : Begins v o H) :
    Meets (Builtin.«enumerate.__new__» ⟨[.type "enumerate", v], []⟩) (fun _ R s => H s.heap ∧
      R (.ok (.ret (.ref (s.heap.push o).objs.size))) { s with heap := (s.heap.push o).push { cls := .type "enumerate", data := .fields #[.none, .bool false, .ref s.heap.objs.size, rawInt 0, .none, .none] } }) :=
  .of_wp fun prog w A R s h => by
    obtain ⟨hp, g, d, tk, os⟩ := s; obtain ⟨h1, h⟩ := h
    have hsub := sub_enumerate
    have q1 : ∀ {A' : Around} {E : Value → Shared → Prop} {Q : Value → Shared → Prop}, Q (.ref hp.objs.size) ⟨hp.push o, g, d, tk, os⟩ → wpAny (model prog w) A' (pyIter v) Q E ⟨hp, g, d, tk, os⟩ :=
      fun q => B.iter prog w _ _ ⟨hp, g, d, tk, os⟩ _ h1 q
    wp_walk using q1
    refine wpAny_stack_any fun st => wpAny_pure ?_
    split
    · rename_i c _ _ _ _ _
      cases (c == Value.type "enumerate")
      · wp_walk using q1
        exact ⟨_, rfl, h⟩
      · wp_walk using q1
        exact ⟨_, rfl, h⟩
    · wp_walk using q1
      exact ⟨_, rfl, h⟩
theorem call_enumerate_B {v : Value} {o : Obj} {H : Heap → Prop} (B : Begins v o H) {Q : Value → Shared → Prop} (h1 : H s.heap)
    (h : ∀ h', IsEnum h' (s.heap.objs.size + 1) s.heap.objs.size 0 .none → h'.get? s.heap.objs.size = some o → h'.objs.size = s.heap.objs.size + 2 →
      (∀ b o, s.heap.get? b = some o → h'.get? b = some o) → Q (.ref (s.heap.objs.size + 1)) { s with heap := h' }) :
    wpAny (model prog w) A (call (.type "enumerate") [v]) Q E s := by
  refine callType_new F.called_enumerate (by decide) (F.typeCall_enumerate_1 _) (F.newCall_enumerate_1 _) (fun obj => F.args_object_init_2 obj _) F.entry_enumerate_new
    (meets_enumerate_new1 B) ⟨h1, ?_⟩
  have hz : (s.heap.push o).objs.size = s.heap.objs.size + 1 := Heap.size_push ..
  show _ ∧ _
  rw [hz]
  have he : IsEnum ((s.heap.push o).push { cls := .type "enumerate", data := .fields #[.none, .bool false, .ref s.heap.objs.size, rawInt 0, .none, .none] }) (s.heap.objs.size + 1) s.heap.objs.size 0 .none := by
    have := Heap.get?_push_size (s.heap.push o) (o := { cls := .type "enumerate", data := .fields #[.none, .bool false, .ref s.heap.objs.size, rawInt 0, .none, .none] }) rfl
    rw [hz] at this; exact this
  refine ⟨⟨_, he, rfl⟩, h _ he (Heap.get?_push_of_some _ (Heap.get?_push_size _ B.free)) (by rw [Heap.size_push, hz]) fun b o x => Heap.get?_push_of_some _ (Heap.get?_push_of_some _ x)⟩
theorem enl_item_held {e it T : Addr} {fp : List Addr} {n i : Nat} {c : Int} {P : Nat → Value → Prop} {St : Nat → Heap → Prop} {old : Value} {f : Bool} {oT : Obj} {Q : Value → Shared → Prop}
    (D : Draws prog w A it fp n P St) (he : IsEnumHeld s.heap e it c old T f) (hT : s.heap.get? T = some oT) (hTe : T ≠ e) (hTi : T ≠ it) (hst : St i s.heap) (hlt : i < n) (hne : e ≠ it) (hef : e ∉ fp)
    (hQ : ∀ x h' tk, P i x → IsEnumHeld h' e it (c + 1) old T true → St (i + 1) h' →
      h'.get? s.heap.objs.size = some { cls := .type "tuple", data := .seq #[.int c tk, x] } → h'.objs.size = s.heap.objs.size + 1 →
      (∀ b o, b ≠ e → b ≠ it → s.heap.get? b = some o → h'.get? b = some o) → Q (.ref s.heap.objs.size) { s with heap := h', toks := tk + 1 }) :
    wpAny (model prog w) A (Builtin.«enumerate.__next__» ⟨[.ref e], []⟩) (fun fin s' => ∃ v, fin = .done (.ret v) ∧ Q v s') E s := by
  obtain ⟨hp, g, d, tk₀, os⟩ := s
  show wpAny _ _ (field (.ref e) 2 >>= _) _ _ _
  refine wpAny_bind (wpAny_field he rfl (x := .ref it) rfl ?_)
  refine wpAny_bind (D.item i _ _ _ hlt hst fun x h₁ tk hPx hit₁ hs₁ => ?_)
  replace hs₁ : Heap.SameBut it hp h₁ := hs₁
  have he₁ : IsEnumHeld h₁ e it c old T f := (hs₁.2 e hne).trans he
  show wpAny _ _ (field (.ref e) 3 >>= _) _ _ ⟨h₁, g, d, tk, os⟩
  refine wpAny_bind (wpAny_field he₁ rfl (x := rawInt c) rfl ?_)
  show wpAny _ _ (field (.ref e) 4 >>= _) _ _ ⟨h₁, g, d, tk, os⟩
  refine wpAny_bind (wpAny_field he₁ rfl (x := .none) rfl ?_)
  show wpAny _ _ (mkInt c >>= _) _ _ ⟨h₁, g, d, tk, os⟩
  refine wpAny_bind (wpAny_mkInt ?_)
  show wpAny _ _ (setField (.ref e) 3 (rawInt (c + 1)) >>= _) _ _ ⟨h₁, g, d, tk + 1, os⟩
  refine wpAny_bind (wpAny_setField_rec he₁ (by simp) fun h₂ he₂ hs₂ => ?_)
  replace hs₂ : Heap.SameBut e h₁ h₂ := hs₂
  replace he₂ : IsEnumHeld h₂ e it (c + 1) old T f := he₂
  show wpAny _ _ (setField (.ref e) 4 .none >>= _) _ _ ⟨h₂, g, d, tk + 1, os⟩
  refine wpAny_bind (wpAny_setField_rec he₂ (by simp) fun h₃ he₃ hs₃ => ?_)
  replace hs₃ : Heap.SameBut e h₂ h₃ := hs₃
  replace he₃ : IsEnumHeld h₃ e it (c + 1) old T f := he₃
  show wpAny _ _ (newTuple [.int c tk, x] >>= _) _ _ ⟨h₃, g, d, tk + 1, os⟩
  refine wpAny_bind (wpAny_newTuple ?_)
  have he₄ : IsEnumHeld (h₃.push { cls := .type "tuple", data := .seq #[.int c tk, x] }) e it (c + 1) old T f := Heap.get?_push_of_some _ he₃
  generalize hh₄ : h₃.push { cls := .type "tuple", data := .seq #[.int c tk, x] } = h₄ at he₄
  have hsz : h₃.objs.size = hp.objs.size := by rw [hs₃.1, hs₂.1, hs₁.1]
  have hel : e < hp.objs.size := Heap.lt_size he
  have ht₄ : h₄.get? hp.objs.size = some { cls := .type "tuple", data := .seq #[.int c tk, x] } := by rw [← hh₄, ← hsz]; exact Heap.get?_push_size _ rfl
  have hz₄ : h₄.objs.size = hp.objs.size + 1 := by rw [← hh₄, Heap.size_push, hsz]
  have hk₄ : ∀ b o, b ≠ e → b ≠ it → hp.get? b = some o → h₄.get? b = some o := fun b o hbe hbi hb => by
    rw [← hh₄]; exact Heap.get?_push_of_some _ (hs₃.extBut b o hbe (hs₂.extBut b o hbe (hs₁.extBut b o hbi hb)))
  have hit₄ : St (i + 1) h₄ := D.frame _ _ _ hit₁ fun b hb o y => by
    have hbe : b ≠ e := fun q => hef (q ▸ hb)
    rw [← hh₄]; exact Heap.get?_push_of_some _ (hs₃.extBut b o hbe (hs₂.extBut b o hbe y))
  show wpAny _ _ (Builtin.SmallTypes.ownedTupleIsFree (.ref e) >>= _) _ _ ⟨h₄, g, d, tk + 1, os⟩
  rw [hsz]
  clear hh₄ he₃ hs₃ he₂ hs₂ he₁ hs₁ hit₁ hsz h₃ h₂ h₁
  refine wpAny_bind (wpAny_tupleHeld_enum (s := ⟨h₄, g, d, tk + 1, os⟩) he₄ (hk₄ T oT hTe hTi hT) fun h₅ he₅ hs₅ => ?_)
  replace hs₅ : Heap.SameBut e h₄ h₅ := hs₅
  simp only [Bool.false_eq_true, if_false]
  refine wpAny_pure ⟨_, rfl, hQ x h₅ tk hPx he₅ ?_ (hs₅.extBut _ _ (Nat.ne_of_gt hel) ht₄) ?_ fun b o hbe hbi hb => hs₅.extBut b o hbe (hk₄ b o hbe hbi hb)⟩
  · exact D.frame _ _ _ hit₄ fun b hb o y => hs₅.extBut b o (fun q => hef (q ▸ hb)) y
  · show h₅.objs.size = hp.objs.size + 1
    rw [hs₅.1, hz₄]
/-- the count stands at i; what was given out last is held -/
def EnSt (h : Heap) (e it S : Addr) (i : Nat) : Prop :=
  (∃ old, IsEnum h e it (i : Nat) old) ∨ ∃ T old f oT, IsEnumHeld h e it (i : Nat) old T f ∧ h.get? T = some oT ∧ T ≠ e ∧ T ≠ it ∧ T ≠ S
theorem EnSt.keep {h h' : Heap} {e it S : Addr} {i : Nat} (x : EnSt h e it S i) (hk : ∀ b o, b ≠ S → h.get? b = some o → h'.get? b = some o) (he : e ≠ S) : EnSt h' e it S i := by
  rcases x with ⟨old, q⟩ | ⟨T, old, f, oT, q, hT, h1, h2, h3⟩
  · exact .inl ⟨old, hk _ _ he q⟩
  · exact .inr ⟨T, old, f, oT, hk _ _ he q, hk _ _ h3 hT, h1, h2, h3⟩
theorem enl_next {e it S : Addr} {fp : List Addr} {n i : Nat} {P : Nat → Value → Prop} {St : Nat → Heap → Prop} {Q : Option Value → Shared → Prop}
    (D : Draws prog w A.in1 it fp n P St) (he : EnSt s.heap e it S i) (hS : S < s.heap.objs.size) (hil : it < s.heap.objs.size) (hst : St i s.heap) (hlt : i < n) (hne : e ≠ it) (hef : e ∉ fp)
    (hQ : ∀ x h' tk, P i x → EnSt h' e it S (i + 1) → St (i + 1) h' →
      h'.get? s.heap.objs.size = some { cls := .type "tuple", data := .seq #[.int (i : Nat) tk, x] } → h'.objs.size = s.heap.objs.size + 1 →
      (∀ b o, b ≠ e → b ≠ it → s.heap.get? b = some o → h'.get? b = some o) → Q (some (.ref s.heap.objs.size)) { s with heap := h', toks := tk + 1 }) :
    wpAny (model prog w) A (pyNext (.ref e)) Q E s := by
  have ei : ((i + 1 : Nat) : Int) = (i : Int) + 1 := by omega
  rcases he with ⟨old, he⟩ | ⟨T, old, f, oT, he, hT, h1, h2, h3⟩
  · refine wpAny_pyNext_enum_itemC D he hst hlt hne hef fun x h' tk a b c d k q => hQ x h' tk a (.inr ⟨_, x, false, _, by rw [ei]; exact b, d, Nat.ne_of_gt (Heap.lt_size he), Nat.ne_of_gt hil, Nat.ne_of_gt hS⟩) c d k q
  · have hTy : s.TypeIs (.ref e) "enumerate" := ⟨_, he, rfl⟩
    unfold pyNext
    exact wpAny_bind (wpAny_attempt (wpAny_callSpecial?_slot (name := Str.ofString "__next__") hTy F.slot_enumerate_next
      (wpAny_call_entry F.slot_enumerate_next hTy F.entry_enumerate_next
        (enl_item_held D he hT h1 h2 hst hlt hne hef fun x h' tk a b c d k q => wpAny_pure (hQ x h' tk a (.inr ⟨T, old, true, oT, by rw [ei]; exact b, q T oT h1 h2 hT, h1, h2, h3⟩) c d k q)) (F.args_enumerate_next_1 _))))
theorem enl_done {e it S : Addr} {fp : List Addr} {n i : Nat} {P : Nat → Value → Prop} {St : Nat → Heap → Prop} {Q : Option Value → Shared → Prop}
    (D : Draws prog w A.in1 it fp n P St) (he : EnSt s.heap e it S i) (hst : St n s.heap)
    (hQ : ∀ h', Heap.ExtBut it s.heap h' → Q none { s with heap := h' }) : wpAny (model prog w) A (pyNext (.ref e)) Q E s := by
  rcases he with ⟨old, he⟩ | ⟨T, old, f, oT, he, hT, h1, h2, h3⟩
  · exact wpAny_pyNext_enum_endD D he hst hQ
  · have hTy : s.TypeIs (.ref e) "enumerate" := ⟨_, he, rfl⟩
    unfold pyNext
    refine wpAny_bind (wpAny_attempt (wpAny_callSpecial?_slot (name := Str.ofString "__next__") hTy F.slot_enumerate_next
      (wpAny_call_entry F.slot_enumerate_next hTy F.entry_enumerate_next ?_ (F.args_enumerate_next_1 _))))
    show wpAny _ _ (field (.ref e) 2 >>= _) _ _ _
    refine wpAny_bind (wpAny_field he rfl (x := .ref it) rfl ?_)
    refine wpAny_bind (D.done _ _ _ hst fun h' x he' hx' => ?_)
    obtain ⟨o, ho, hc⟩ := hx'
    refine wpAny_bind (wpAny_isInstance (T := "StopIteration") (b := true) ⟨o, ho, hc⟩ isSubtype_stop ?_)
    exact wpAny_pure (hQ _ he')
theorem enl_no_len : typeLookup (.type "enumerate") "__len__" = pure none := by rw [typeLookup_type, builtinLookup_eq_fast]; kernel_rfl
theorem enl_no_hint : typeLookup (.type "enumerate") "__length_hint__" = pure none := by rw [typeLookup_type, builtinLookup_eq_fast]; kernel_rfl
end
end PySem
namespace L2
open PySem PySem.Spec PyProof.Rows
/-- the pairs told so far -/
structure EnP (xs : List V) (H0 H : Hp) (q : Addr) (i : Nat) : Prop where
  ex : ∃ ts : List Addr, ts.length = i ∧ H q = some (.lst (ts.map V.ref)) ∧ ∀ (j : Nat) (t : Addr) (x : V), ts[j]? = some t → xs[j]? = some x → H t = some (.tup [.int (j : Nat), x])
  same : Same H0 H
theorem EnP.step {xs : List V} {H0 H : Hp} {q T : Addr} {i : Nat} {x : V} (h : EnP xs H0 H q i) (hq : H0 q = none) (hT : H T = none) (hx : xs[i]? = some x) {ys : List V} (hl : H q = some (.lst ys)) :
    EnP xs H0 (upd (upd H T (.tup [.int (i : Nat), x])) q (.lst (ys ++ [.ref T]))) q (i + 1) := by
  obtain ⟨⟨ts, hts, e1, hp⟩, hs⟩ := h
  rw [hl] at e1
  injection e1 with e1
  injection e1 with e1
  subst e1
  have hqT : q ≠ T := fun z => by rw [z, hT] at hl; cases hl
  refine ⟨⟨ts ++ [T], by rw [List.length_append, hts]; rfl, by rw [upd_same, List.map_append]; rfl, fun j t y hj hy => ?_⟩, fun b u hb => ?_⟩
  · rcases Nat.lt_trichotomy j ts.length with h1 | h1 | h1
    · rw [List.getElem?_append_left h1] at hj
      have e := hp j t y hj hy
      have n1 : t ≠ q := fun z => by rw [z, hl] at e; cases e
      have n2 : t ≠ T := fun z => by rw [z, hT] at e; cases e
      rw [upd_ne n1, upd_ne n2]; exact e
    · subst h1
      have et : T = t := by simpa using hj
      subst et
      rw [hts, hx] at hy
      injection hy with hy
      subst hy
      rw [upd_ne (Ne.symm hqT), upd_same, hts]
    · rw [List.getElem?_eq_none (by rw [List.length_append, List.length_singleton]; omega)] at hj
      cases hj
  · have n1 : b ≠ q := fun z => by rw [z, hq] at hb; cases hb
    have e := hs b u hb
    have n2 : b ≠ T := fun z => by rw [z, hT] at e; cases e
    show upd (upd H T _) q _ b = some u
    rw [upd_ne n1, upd_ne n2]; exact e
section
variable {X : Cx} {pins : List (Addr × Obj)} {σ : St} {A1 : Around}
theorem enl_loop {a e it q : Addr} {xs : List V} {H0 : Hp} {Rs : Result → Shared → Prop} (hh : A1.handled = none) (hne : e ≠ it) (hqe : e ≠ q) (hqi : it ≠ q) (hs : SqT X.K H0 a xs) (hia : a ≠ it) (hea : e ≠ a) (hn : xs.length ≤ 1000) (hq0 : H0 q = none)
    (hdone : ∀ H' s', Inv X pins σ H' s' → EnP xs H0 H' q xs.length → Rs (.ok (.ret .none)) s') :
    ∀ (k i : Nat) (H : Hp) (s : Shared), xs.length - i = k → i ≤ xs.length → Inv X pins σ H s → EnP xs H0 H q i → EnSt s.heap e it q i → s.heap.IsTupleIter it a i → (∀ b ∈ [e, it], FpOk X pins H b) →
      codeAny (model X.prog X.w) A1 (.builtin "list.extend.loop" ⟨[.ref q, .ref e, .none], []⟩) Rs s := by
  intro k
  induction k with
  | zero =>
    intro i H s hk hi I hP hE hit hf
    have hin : i = xs.length := by omega
    obtain ⟨its, rv, p, hz⟩ := I.tuple (hP.same.tup hs)
    have hl := rv.length
    refine codeAny_builtin PySem.F.entry_extend_loop ?_
    rw [Around.under_plainId PySem.F.plain_extend_loop _]
    show wpAny _ A1.in1 (pyNext (.ref e) >>= _) _ _ s
    have D := Draws.tuple (prog := X.prog) (w := X.w) (A := A1.in1.in1) hh it a hia its.toArray
    refine wpAny_bind (enl_done D hE (by rw [List.size_toArray, ← hl, ← hin]; exact ⟨hit, p⟩) fun h' eb => ?_)
    obtain ⟨f0, f1, f2, f3, f4, f5⟩ := hf it (by simp)
    refine wpAny_pure (hdone H _ (I.turned (t' := s.toks) (fun b o hb q => eb b o hb q) f0 f1 f3 f4 f5) ?_)
    rw [← hin]; exact hP
  | succ k ih =>
    intro i H s hk hi I hP hE hit hf
    have hlt : i < xs.length := by omega
    obtain ⟨its, rv, p, hz⟩ := I.tuple (hP.same.tup hs)
    have hl := rv.length
    obtain ⟨x, hx⟩ : ∃ x, xs[i]? = some x := ⟨xs[i], List.getElem?_eq_getElem hlt⟩
    obtain ⟨⟨ts, hts, hq, hpr⟩, hsm⟩ := id hP
    have hlq := (I.lstM hq)
    have hqs : q < s.heap.objs.size := by obtain ⟨z, its, kk, r2, hl, ee⟩ := hlq; exact Heap.lt_size ee
    have hils : it < s.heap.objs.size := by obtain ⟨_, q, _⟩ := hit; exact Heap.lt_size q
    have hes : e < s.heap.objs.size := by
      rcases hE with ⟨_, z⟩ | ⟨_, _, _, _, z, _⟩
      · exact Heap.lt_size z
      · exact Heap.lt_size z
    refine codeAny_builtin PySem.F.entry_extend_loop ?_
    rw [Around.under_plainId PySem.F.plain_extend_loop _]
    show wpAny _ A1.in1 (pyNext (.ref e) >>= _) _ _ s
    have D := Draws.tuple (prog := X.prog) (w := X.w) (A := A1.in1.in1) hh it a hia its.toArray
    have hef : e ∉ [it, a] := by simp [hne, hea]
    refine wpAny_bind (enl_next D hE hqs hils ⟨hit, p⟩ (by rw [List.size_toArray, ← hl]; exact hlt) hne hef fun u h' tk hu hE' hst' hT hsz hk' => ?_)
    have fr : H s.heap.objs.size = none := I.hok.fresh (Nat.le_refl _)
    obtain ⟨u2, hu2, ru⟩ := rv.get hx
    have eu : u2 = u := by
      have : its[i]? = some u := by simpa using hu
      rw [hu2] at this
      injection this
    subst eu
    have new : ObjOk X.prog X.w (upd H s.heap.objs.size (.tup [.int (i : Nat), x])) h' s.heap.objs.size (.tup [.int (i : Nat), x]) :=
      ⟨by show 2 ≤ sizeLine; decide, [.int i tk, u2], .cons ⟨_, rfl⟩ (.cons ru .nil), ⟨_, hT, rfl, _, rfl⟩⟩
    have I1 : Inv X pins σ (upd H s.heap.objs.size (.tup [.int (i : Nat), x])) { s with heap := h', toks := tk + 1 } :=
      I.turnedNew (t' := tk + 1) (ch := [e, it]) (fun b o hb q => hk' b o (fun z => hb (by simp [z])) (fun z => hb (by simp [z])) q) hf (Nat.le_refl _) new
    have hq1 : upd H s.heap.objs.size (.tup [.int (i : Nat), x]) q = some (.lst (ts.map V.ref)) := by rw [upd_ne (Nat.ne_of_lt hqs)]; exact hq
    obtain ⟨z, its3, kk, r2, hl3, ee⟩ := I1.lstM hq1
    have hl4 := r2.length
    rw [List.length_map] at hl4
    show wpAny _ A1.in1 (updateSeq q (·.push (.ref s.heap.objs.size)) >>= _) _ _ _
    refine wpAny_bind (wpAny_updateSeq ee rfl (wpAny_pure ⟨plainId_quiet PySem.F.plain_extend_loop _, ?_⟩) (by rw [List.size_toArray, sizeLine_eq]; omega) (by show (its3.toArray.push _).size ≤ sizeLine + 1; rw [Array.size_push, List.size_toArray, sizeLine_eq]; omega))
    have oth : ∀ b o, b ≠ q → h'.get? b = some o → (h'.update q (Obj.mapSeq (·.push (Value.ref s.heap.objs.size)))).get? b = some o := fun b o hb e => (Heap.get?_update_other _ _ (Ne.symm hb)).trans e
    refine ih (i + 1) _ _ (by omega) hlt (I1.lset (its' := its3 ++ [.ref s.heap.objs.size]) (t' := tk + 1) hq1 ee (by simp) (r2.append (.cons (show RelV (.ref s.heap.objs.size) (.ref s.heap.objs.size) from rfl) .nil)) (by rw [List.length_append, List.length_map, List.length_singleton, sizeLine_eq]; omega)) (hP.step hq0 fr hx hq) (hE'.keep oth hqe) (hst'.1.at fun o e => oth it o hqi e) fun b hb => ?_
    have hb1 : b ≠ q := by
      have e' : b = e ∨ b = it := by simpa using hb
      rcases e' with z | z
      · rw [z]; exact hqe
      · rw [z]; exact hqi
    have hb2 : b < s.heap.objs.size := by
      have e' : b = e ∨ b = it := by simpa using hb
      rcases e' with z | z
      · rw [z]; exact hes
      · rw [z]; exact hils
    exact ⟨by rw [upd_ne hb1, upd_ne (Nat.ne_of_lt hb2)]; exact (hf b hb).1, (hf b hb).2⟩
/-- nothing is said of the length -/
theorem enl_hint {M : Model} {A : Around} {E : Value → Shared → Prop} {Q : Bool → Shared → Prop} {s : Shared} {e : Addr} (hT : s.TypeIs (.ref e) "enumerate") (h : Q true s) :
    wpAny M A (Builtin.List.listLengthHint (.ref e)) Q E s := by
  unfold Builtin.List.listLengthHint
  refine wpAny_bind (wpAny_specialOf hT enl_no_len ?_)
  show wpAny _ A (specialOf (Value.ref e) (Str.ofString "__length_hint__") >>= _) _ _ _
  refine wpAny_bind (wpAny_specialOf hT enl_no_hint ?_)
  exact wpAny_pure h
/-- list(enumerate(t)) -/
def tEnL (K : PySem.W.Frag) (ta : TA) : TE := fun σ H Q => ta σ H fun vs H1 => ∃ a xs, vs = [.ref a] ∧ SqT K H1 a xs ∧ xs.length ≤ 1000 ∧ ∀ q H', H1 q = none → EnP xs H1 H' q xs.length → Q (.ref q) H'
end
theorem pe_enL {X : Cx} {e : Expr} {ta : TA} {p1 p2 p3 p4 : Pos} (ha : PA X [e] ta) (hgl : Gl X "list") (hml : X.mg "list" = none) (hge : Gl X "enumerate") (hme : X.mg "enumerate" = none) (hc : X.calm = true)
    (h1 : starEach [.Call (.Name "enumerate" p2) [e] [] p3] X.env = [(false, eval (.Call (.Name "enumerate" p2) [e] [] p3) X.env)] := by rfl) (h2 : starEach [e] X.env = [(false, eval e X.env)] := by rfl) :
    PE X (.Call (.Name "list" p1) [.Call (.Name "enumerate" p2) [e] [] p3] [] p4) (tEnL X.K ta) := by
  refine ⟨fun pins s σ H Q I h => wpAny_Call_Name_kw (ld_blt I hgl hml PyProof.Rows.boot_list (PyProof.Rows.callWith_type1 ?_ h1 rfl))⟩
  rw [h1]
  refine Calls.spliced_cons ?_
  refine wpAny_Call_Name_kw (ld_blt I hge hme boot_enumerate (PyProof.Rows.callWith_type1 (thn (ha.run p3 pins s σ H _ I h) fun us s1 ⟨vs, H1, I1, r1, q1⟩ => ?_) h2 rfl))
  obtain ⟨a, xs, ex, hs, hn, q⟩ := q1
  subst ex
  cases r1 with
  | cons r rr =>
    cases rr
    cases r
    obtain ⟨its, rv, p, hz⟩ := I1.tuple hs
    have hp : s1.heap.IsTuple a its.toArray := p
    have hal : a < s1.heap.objs.size := by obtain ⟨_, z, _⟩ := hp; exact Heap.lt_size z
    refine call_enumerate_B (begins_tuple a its.toArray) hp fun h' he hit hsz hk => ?_
    refine Calls.spliced_nil ?_
    have I2 : Inv X pins σ H1 { s1 with heap := h' } := I1.kept (t' := s1.toks) hk
    have fp : ∀ b ∈ [s1.heap.objs.size + 1, s1.heap.objs.size], FpOk X pins H1 b := fun b hb => by
      have e' : b = s1.heap.objs.size + 1 ∨ b = s1.heap.objs.size := by simpa using hb
      have hle : s1.heap.objs.size ≤ b := by
        rcases e' with z | z
        · rw [z]; exact Nat.le_add_right _ _
        · rw [z]; exact Nat.le_refl _
      exact I1.fpOk hle (I1.hok.fresh hle)
    generalize hS1 : ({ s1 with heap := h' } : Shared) = s2 at I2 ⊢
    have e2 : s2.heap = h' := by rw [← hS1]
    rw [← e2] at he hit hsz
    generalize s1.heap.objs.size = it at he hit hsz fp hal
    clear hS1 e2 hk I1 h
    -- list(..)
    refine callType_codes (Q₁ := fun obj s₁ => obj = .ref s2.heap.objs.size ∧ s₁ = { s2 with heap := s2.heap.push { cls := .type "list", data := .seq #[] } }) PySem.F.called_list (PySem.F.typeCall_list_1 _) PySem.F.entry_list_init
      (code_list_new _ ⟨rfl, rfl⟩) fun obj s₁ h₁ => ?_
    obtain ⟨rfl, rfl⟩ := h₁
    have hS : (s2.heap.push { cls := .type "list", data := .seq #[] }).get? s2.heap.objs.size = some { cls := .type "list", data := .seq #[] } := Heap.get?_push_size _ rfl
    refine ⟨⟨_, hS, rfl⟩, PySem.F.args_list_init_2 _ _, ?_⟩
    have fr : H1 s2.heap.objs.size = none := I2.hok.fresh (Nat.le_refl _)
    have I3 : Inv X pins σ (upd H1 s2.heap.objs.size (.lst [])) { s2 with heap := s2.heap.push { cls := .type "list", data := .seq #[] } } := I2.lnew (its := []) (t' := s2.toks) .nil (Nat.zero_le _)
    show wpAny _ _ (do let old ← Builtin.List.listItems (.ref s2.heap.objs.size); Builtin.List.listUpdate (.ref s2.heap.objs.size) (fun _ => #[]); letGo old.toList.reverse; Builtin.List.listExtendWith (.ref s2.heap.objs.size) (.ref (it + 1)) .none) _ _ _
    refine wpAny_bind ?_
    unfold Builtin.List.listItems
    refine wpAny_bind (wpAny_seqItems hS rfl (wpAny_pure ?_))
    show wpAny _ _ (updateSeq s2.heap.objs.size (fun _ => #[]) >>= fun _ => letGo (#[] : Array Value).toList.reverse >>= fun _ => Builtin.List.listExtendWith (.ref s2.heap.objs.size) (.ref (it + 1)) .none) _ _ _
    refine wpAny_bind (wpAny_updateSeq hS rfl ?_)
    have I4 := I3.lset (f := fun _ => #[]) (its := []) (its' := []) (ys := []) (t' := s2.toks) upd_same hS rfl .nil (Nat.zero_le _)
    rw [upd_upd] at I4
    refine wpAny_bind (wpAny_letGo ?_)
    have hS4 := Heap.get?_update_self (Obj.mapSeq (fun _ => (#[] : Array Value))) hS rfl
    have oth : ∀ b o, b ≠ s2.heap.objs.size → s2.heap.get? b = some o → ((s2.heap.push { cls := .type "list", data := .seq #[] }).update s2.heap.objs.size (Obj.mapSeq (fun _ => (#[] : Array Value)))).get? b = some o :=
      fun b o hb e => (Heap.get?_update_other _ _ (Ne.symm hb)).trans (Heap.get?_push_of_some _ e)
    have hie : it + 1 ≠ s2.heap.objs.size := Nat.ne_of_lt (Heap.lt_size he)
    have hii : it ≠ s2.heap.objs.size := Nat.ne_of_lt (Heap.lt_size hit)
    have he4 := oth _ _ hie he
    have hit4 := oth _ _ hii hit
    have hh : X.A.handled = none := I2.ok.hd hc
    have key : ∀ (s5 : Shared), Inv X pins σ (upd H1 s2.heap.objs.size (.lst [])) s5 → IsEnum s5.heap (it + 1) it 0 .none → s5.heap.get? it = some { cls := .type "tuple_iterator", data := .fields #[.ref a, .int 0 0] } →
        codeAny (model X.prog X.w) X.A.in1 (.builtin "list.extend.loop" ⟨[.ref s2.heap.objs.size, .ref (it + 1), .none], []⟩) (wants (fun r s₂ => r = .none ∧ EP X pins σ Q (.ref s2.heap.objs.size) s₂) X.xe) s5 := fun s5 I5 he5 hit5 =>
      enl_loop (X := X) (pins := pins) (σ := σ) (A1 := X.A.in1) (a := a) (e := it + 1) (it := it) (q := s2.heap.objs.size) (xs := xs) (H0 := H1) hh (Nat.succ_ne_self _) hie hii hs (Nat.ne_of_lt hal) (Nat.ne_of_gt (Nat.lt_succ_of_lt hal)) hn fr
        (fun H' s' I' hP => ⟨rfl, .ref s2.heap.objs.size, H', I', rfl, q _ H' fr hP⟩) xs.length 0 _ s5 (Nat.sub_zero _) (Nat.zero_le _) I5
        ⟨⟨[], rfl, upd_same, fun j t x hj => by simp at hj⟩, fun b u hb => by
          have n1 : b ≠ s2.heap.objs.size := fun z => by rw [z, fr] at hb; cases hb
          rw [upd_ne n1]; exact hb⟩ (.inl ⟨_, he5⟩) ⟨_, hit5, rfl, rfl⟩ fun b hb => ⟨by
            have n1 : b ≠ s2.heap.objs.size := by
              have e' : b = it + 1 ∨ b = it := by simpa using hb
              rcases e' with z | z
              · rw [z]; exact hie
              · rw [z]; exact hii
            rw [upd_ne n1]; exact (fp b hb).1, (fp b hb).2⟩
    unfold Builtin.List.listExtendWith
    refine wpAny_bind (wpAny_typeOf (T := "enumerate") ⟨_, he4, rfl⟩ ?_)
    have h1 : Builtin.List.listSameRef (.ref s2.heap.objs.size) (.ref (it + 1)) = false := by simp [Builtin.List.listSameRef, Ne.symm hie]
    have h2 : (Value.type "enumerate" == Value.type "list") = false := by decide
    have h3 : (Value.type "enumerate" == Value.type "tuple") = false := by decide
    simp only [h1, h2, h3, Bool.or_false, Bool.false_eq_true, if_false]
    refine wpAny_bind (wpAny_pyIter_enum he4 ?_)
    refine wpAny_bind (wpAny_holding (enl_hint ⟨_, he4, rfl⟩ ?_))
    refine wpAny_ite_split (fun _ => ?_) (fun _ => wpAny_pure ⟨plainId_quiet PySem.F.plain_extend_loop _, key _ I4 he4 hit4⟩)
    refine wpAny_bind (wpAny_rule ?_)
    refine wpAny_bind ?_
    show wpAny _ _ (updateSeq s2.heap.objs.size (·.push .none) >>= fun _ => updateSeq s2.heap.objs.size (·.pop)) _ _ _
    refine wpAny_bind (wpAny_updateSeq hS4 rfl ?_)
    have I5 := I4.lset (f := (·.push Value.none)) (its' := [Value.none]) (ys := [.non]) (t' := s2.toks) upd_same hS4 (by simp) (.cons rfl .nil) (by rw [List.length_singleton, sizeLine_eq]; decide)
    have hS5 := Heap.get?_update_self (Obj.mapSeq (·.push Value.none)) hS4 rfl
    refine wpAny_updateSeq hS5 rfl ?_ (by show 1 ≤ sizeLine; rw [sizeLine_eq]; decide) (by show 0 ≤ sizeLine + 1; exact Nat.zero_le _)
    have I6 := I5.lset (f := (·.pop)) (its' := []) (ys := []) (t' := s2.toks) upd_same hS5 (by rfl) .nil (Nat.zero_le _)
    rw [upd_upd, upd_upd] at I6
    have oth2 : ∀ {h : Heap} {f : Array Value → Array Value} {b : Addr} {o : Obj}, b ≠ s2.heap.objs.size → h.get? b = some o → (h.update s2.heap.objs.size (Obj.mapSeq f)).get? b = some o := fun hb e => (Heap.get?_update_other _ _ (Ne.symm hb)).trans e
    exact wpAny_pure ⟨plainId_quiet PySem.F.plain_extend_loop _, key _ I6 (oth2 hie (oth2 hie he4)) (oth2 hii (oth2 hii hit4))⟩
end L2
/-! what an instruction, an answer is, over data of any kind -/
namespace Fld
open PySem PySem.Spec PyProof.Rows L2
def dIns : PyData → Bool
  | .tuple [k, n] => [("again" : Str), "limit"].any (fun z => isS k z) && dBtw n 0 9999
  | .tuple [k, n, x] => if isS k "new" then dTxt n 1 20 && dTxt x 0 40 else [("fixed" : Str), "entry"].any (fun z => isS k z) && (dBtw n 0 9999 && dTxt x 0 40)
  | _ => false
def dAns : PyData → Bool
  | .tuple [k, n] => if isS k "received" then dBtw n 1 9999 else [("done" : Str), "cancelled"].any (fun z => isS k z) && dBtw n 0 20
  | _ => false
theorem dIns_no {d : PyData} (e : subT (tyD d) "tuple" = false) : dIns d = false := by
  rw [sub_tup] at e
  cases d <;> first | rfl | cases e
theorem dAns_no {d : PyData} (e : subT (tyD d) "tuple" = false) : dAns d = false := by
  rw [sub_tup] at e
  cases d <;> first | rfl | cases e
theorem dIns_ne {ds : List PyData} (h2 : ds.length ≠ 2) (h3 : ds.length ≠ 3) : dIns (.tuple ds) = false := by
  match ds, h2, h3 with
  | [], _, _ => rfl
  | [_], _, _ => rfl
  | [_, _], h, _ => exact absurd rfl h
  | [_, _, _], _, h => exact absurd rfl h
  | _ :: _ :: _ :: _ :: _, _, _ => rfl
theorem dAns_ne {ds : List PyData} (h2 : ds.length ≠ 2) : dAns (.tuple ds) = false := by
  match ds, h2 with
  | [], _ => rfl
  | [_], _ => rfl
  | [_, _], h => exact absurd rfl h
  | _ :: _ :: _ :: _, _ => rfl
theorem any2 {k : PyData} {a b : Str} (e : [a, b].any (fun z => isS k z) = true) : k = .str a ∨ k = .str b := by
  have e' : (isS k a || (isS k b || false)) = true := e
  rw [Bool.or_false, Bool.or_eq_true] at e'
  rcases e' with h | h
  · exact .inl (isS_str h)
  · exact .inr (isS_str h)
theorem ins_of {K : PySem.W.Frag} {H : Hp} {v : V} {d : PyData} (h : Dv K H v d) (e : dIns d = true) : ∃ i : Ins, InsV K H v i ∧ i.Ok := by
  match d, h, e with
  | .tuple [k, n], h, e =>
    obtain ⟨a, xs, rfl, hs, ha⟩ := h.sTup
    obtain ⟨x0, x1, d0, d1, rfl, e2, h0, h1⟩ := len2 ha (by rw [ha.len]; rfl)
    injection e2 with e3 e4
    injection e4 with e4 _
    subst e3 e4
    have e' : ([("again" : Str), "limit"].any (fun z => isS k z) && dBtw n 0 9999) = true := e
    rw [Bool.and_eq_true] at e'
    obtain ⟨i, rfl, i0, i1⟩ := btw_int e'.2
    obtain ⟨m, rfl⟩ : ∃ m : Nat, i = (m : Int) := ⟨i.toNat, by omega⟩
    have := h1.sInt; subst this
    rcases any2 e'.1 with rfl | rfl
    · have := h0.sStr; subst this
      exact ⟨.again m, ⟨a, rfl, hs⟩, by show m ≤ 9999; omega⟩
    · have := h0.sStr; subst this
      exact ⟨.limit m, ⟨a, rfl, hs⟩, by show m ≤ 9999; omega⟩
  | .tuple [k, n, x], h, e =>
    obtain ⟨a, xs, rfl, hs, ha⟩ := h.sTup
    obtain ⟨x0, x1, x2, d0, d1, d2, rfl, e2, h0, h1, h2⟩ := len3 ha (by rw [ha.len]; rfl)
    injection e2 with e3 e4
    injection e4 with e4 e5
    injection e5 with e5 _
    subst e3 e4 e5
    have e' : (if isS k "new" = true then dTxt n 1 20 && dTxt x 0 40 else [("fixed" : Str), "entry"].any (fun z => isS k z) && (dBtw n 0 9999 && dTxt x 0 40)) = true := e
    by_cases c : isS k "new" = true
    · rw [if_pos c, Bool.and_eq_true] at e'
      obtain ⟨y, rfl, hy⟩ := txt_str e'.1
      obtain ⟨z, rfl, hz⟩ := txt_str e'.2
      have := isS_str c; subst this
      have := h0.sStr; subst this
      have := h1.sStr; subst this
      have := h2.sStr; subst this
      exact ⟨.new y z, ⟨a, rfl, hs⟩, hy, hz⟩
    · rw [if_neg c, Bool.and_eq_true, Bool.and_eq_true] at e'
      obtain ⟨i, rfl, i0, i1⟩ := btw_int e'.2.1
      obtain ⟨z, rfl, hz⟩ := txt_str e'.2.2
      obtain ⟨m, rfl⟩ : ∃ m : Nat, i = (m : Int) := ⟨i.toNat, by omega⟩
      have := h1.sInt; subst this
      have := h2.sStr; subst this
      rcases any2 e'.1 with rfl | rfl
      · have := h0.sStr; subst this
        exact ⟨.fixed m z, ⟨a, rfl, hs⟩, by omega, hz⟩
      · have := h0.sStr; subst this
        exact ⟨.entry m z, ⟨a, rfl, hs⟩, by omega, hz⟩
theorem ans_of {K : PySem.W.Frag} {H : Hp} {v : V} {d : PyData} (h : Dv K H v d) (e : dAns d = true) : ∃ i : Ans, AnsV K H v i ∧ i.Ok := by
  match d, h, e with
  | .tuple [k, n], h, e =>
    obtain ⟨a, xs, rfl, hs, ha⟩ := h.sTup
    obtain ⟨x0, x1, d0, d1, rfl, e2, h0, h1⟩ := len2 ha (by rw [ha.len]; rfl)
    injection e2 with e3 e4
    injection e4 with e4 _
    subst e3 e4
    have e' : (if isS k "received" = true then dBtw n 1 9999 else [("done" : Str), "cancelled"].any (fun z => isS k z) && dBtw n 0 20) = true := e
    by_cases c : isS k "received" = true
    · rw [if_pos c] at e'
      obtain ⟨i, rfl, i0, i1⟩ := btw_int e'
      obtain ⟨m, rfl⟩ : ∃ m : Nat, i = (m : Int) := ⟨i.toNat, by omega⟩
      have := h1.sInt; subst this
      have := isS_str c; subst this
      have := h0.sStr; subst this
      exact ⟨.received m, ⟨a, rfl, hs⟩, by omega, by omega⟩
    · rw [if_neg c, Bool.and_eq_true] at e'
      obtain ⟨i, rfl, i0, i1⟩ := btw_int e'.2
      obtain ⟨m, rfl⟩ : ∃ m : Nat, i = (m : Int) := ⟨i.toNat, by omega⟩
      have := h1.sInt; subst this
      rcases any2 e'.1 with rfl | rfl
      · have := h0.sStr; subst this
        exact ⟨.done m, ⟨a, rfl, hs⟩, by show m ≤ 20; omega⟩
      · have := h0.sStr; subst this
        exact ⟨.cancelled m, ⟨a, rfl, hs⟩, by show m ≤ 20; omega⟩
/-- refused, or not, by the way -/
def sp_refused2 (K : PySem.W.Frag) : Sp := fun vs H Q _ => ∃ (way : Int) (v : V) (d : PyData) (b : Bool), vs = [.int way, v] ∧ ((way = 0 ∧ b = !dIns d) ∨ (way = 1 ∧ b = !dAns d)) ∧ Dv K H v d ∧ Lim d ∧ ∀ H', Same H H' → Q (.bl b) H'
end Fld
namespace Fld
open PySem PySem.Spec PyProof.Rows L2
theorem merge2 {x y : V} : mergeK [] [((.inl 0 : Key), x), (.inl 1, y)] = [((.inl 0 : Key), x), (.inl 1, y)] := rfl
theorem merge3 {x y z : V} : mergeK [] [((.inl 0 : Key), x), (.inl 1, y), (.inl 2, z)] = [((.inl 0 : Key), x), (.inl 1, y), (.inl 2, z)] := rfl
/-- dict(list(enumerate(t))): of two, of three items -/
theorem dic_of {K : PySem.W.Frag} {S : List Addr} {H0 H : Hp} {q : Addr} {xs : List V} {ds : List PyData} (h : EnP xs H0 H q xs.length) (ha : DvAll K (OffS S H0) xs ds) (hS : Hid S H0) (hz : SzAll 0 ds) (hw : wVAll ds ≤ 1500) (h23 : ds.length = 2 ∨ ds.length = 3) :
    ∃ (ts : List Addr) (kvs : List (Key × V)) (d : PyData), H q = some (.lst (ts.map V.ref)) ∧ Paired (fun p kv => SqT K H p [kV kv.1, kv.2]) ts kvs ∧ Sz 5000 1 d ∧ ∀ p, H p = none → Dv K (OffS S (upd H p (.dK (mergeK [] kvs)))) (.ref p) d := by
  obtain ⟨⟨ts, hts, hq, hp⟩, hs⟩ := h
  have ha' := ha.keep hs.off
  have hS' := hS.keep hs
  have zi : ∀ d ∈ ds, Sz (wV d) 0 d := fun d hd => ⟨okVAll_mem hz.1 hd, Nat.le_refl _, Nat.le_trans (depthAll_mem hd) hz.2⟩
  have hl := ha.len
  rcases h23 with e | e
  · obtain ⟨x0, x1, d0, d1, rfl, rfl, h0, h1⟩ := len2 ha' (by omega)
    match ts, hts, hq, hp with
    | [t0, t1], _, hq, hp =>
      rw [wVAll, wVAll, wVAll] at hw
      refine ⟨[t0, t1], [((.inl 0 : Key), x0), (.inl 1, x1)], .dict [(.int 0, d0), (.int 1, d1)], hq, .cons (SqT.of (hp 0 t0 x0 rfl rfl)) (.cons (SqT.of (hp 1 t1 x1 rfl rfl)) .nil), ?_, fun p hpn => ?_⟩
      · refine ⟨?_, ?_, ?_⟩
        · rw [okV, okVKv, okVKv, okVKv, (zi d0 (by simp)).ok, (zi d1 (by simp)).ok]; decide
        · rw [wV, wVKv, wVKv, wVKv, wV, wV]; omega
        · have := (zi d0 (by simp)).dp; have := (zi d1 (by simp)).dp
          simp only [PyData.depth, PyData.depthKv]; omega
      · rw [merge2]
        have s := Same.new (o := .dK [((.inl 0 : Key), x0), (.inl 1, x1)]) hpn
        exact .dic (off_new hpn hS') rfl ((DvAll.cons h0 (.cons h1 .nil)).keep s.off)
  · obtain ⟨x0, x1, x2, d0, d1, d2, rfl, rfl, h0, h1, h2⟩ := len3 ha' (by omega)
    match ts, hts, hq, hp with
    | [t0, t1, t2], _, hq, hp =>
      rw [wVAll, wVAll, wVAll, wVAll] at hw
      refine ⟨[t0, t1, t2], [((.inl 0 : Key), x0), (.inl 1, x1), (.inl 2, x2)], .dict [(.int 0, d0), (.int 1, d1), (.int 2, d2)], hq, .cons (SqT.of (hp 0 t0 x0 rfl rfl)) (.cons (SqT.of (hp 1 t1 x1 rfl rfl)) (.cons (SqT.of (hp 2 t2 x2 rfl rfl)) .nil)), ?_, fun p hpn => ?_⟩
      · refine ⟨?_, ?_, ?_⟩
        · rw [okV, okVKv, okVKv, okVKv, okVKv, (zi d0 (by simp)).ok, (zi d1 (by simp)).ok, (zi d2 (by simp)).ok]; decide
        · rw [wV, wVKv, wVKv, wVKv, wVKv, wV, wV, wV]; omega
        · have := (zi d0 (by simp)).dp; have := (zi d1 (by simp)).dp; have := (zi d2 (by simp)).dp
          simp only [PyData.depth, PyData.depthKv]; omega
      · rw [merge3]
        have s := Same.new (o := .dK [((.inl 0 : Key), x0), (.inl 1, x1), (.inl 2, x2)]) hpn
        exact .dic (off_new hpn hS') rfl ((DvAll.cons h0 (.cons h1 (.cons h2 .nil))).keep s.off)
end Fld
/-! fields, lists of fields, settings, entries: as values and by plain data; what stays while only tuples must stand -/
namespace Fld
open PySem PySem.Spec PyProof.Rows L2
def IsTupO (u : HO) : Prop := (∃ xs, u = .tup xs) ∨ ∃ o xs, u = .frz o (.tup xs)
/-- all tuples stand -/
def TS (H H' : Hp) : Prop := ∀ a u, IsTupO u → H a = some u → H' a = some u
theorem TS.refl (H : Hp) : TS H H := fun _ _ _ e => e
theorem TS.trans {H H1 H2 : Hp} (a : TS H H1) (b : TS H1 H2) : TS H H2 := fun c u t e => b c u t (a c u t e)
theorem TS.of {H H1 : Hp} (s : Same H H1) : TS H H1 := fun c u _ e => s c u e
theorem nt_lst {xs : List V} : ¬ IsTupO (.lst xs) := by
  rintro (⟨_, e⟩ | ⟨_, _, e⟩) <;> cases e
theorem nt_dK {kvs : List (Key × V)} : ¬ IsTupO (.dK kvs) := by
  rintro (⟨_, e⟩ | ⟨_, _, e⟩) <;> cases e
theorem nt_fD {o : Obj} {kvs : List (Key × V)} : ¬ IsTupO (.frz o (.dK kvs)) := by
  rintro (⟨_, e⟩ | ⟨_, _, e⟩) <;> cases e
theorem nt_ins {C d : Addr} {fs : List (Str × V)} : ¬ IsTupO (.ins C d fs) := by
  rintro (⟨_, e⟩ | ⟨_, _, e⟩) <;> cases e
theorem TS.at {H : Hp} {q : Addr} {o o0 : HO} (h : H q = some o0) (n : ¬ IsTupO o0) : TS H (upd H q o) := fun a u t e => by
  by_cases z : a = q
  · subst z; rw [h] at e; cases e; exact absurd t n
  · rw [upd_ne z]; exact e
theorem TS.new {H : Hp} {q : Addr} {o : HO} (h : H q = none) : TS H (upd H q o) := .of (Same.new h)
theorem TS.but {p : Addr} {H H' : Hp} {o0 : HO} (b : But p H H') (h : H p = some o0) (n : ¬ IsTupO o0) : TS H H' := fun a u t e => by
  by_cases z : a = p
  · subst z; rw [h] at e; cases e; exact absurd t n
  · exact b a u z e
theorem TS.drew {p c : Addr} {H H' : Hp} {n m : Nat} (hp : Pen H p c n) (d : Drew p c H H' m) : TS H H' := by
  obtain ⟨⟨xs, e⟩, _⟩ := hp.some
  exact TS.but d.but e nt_lst
theorem TS.tup {K : PySem.W.Frag} {H H' : Hp} {a : Addr} {xs : List V} (t : TS H H') (h : SqT K H a xs) : SqT K H' a xs := by
  rcases h with (h | ⟨o, h⟩) | h
  · exact .inl (.inl (t _ _ (.inl ⟨_, rfl⟩) h))
  · exact .inl (.inr ⟨o, t _ _ (.inr ⟨_, _, rfl⟩) h⟩)
  · exact .inr h
/-! ### fields -/
abbrev Fd := Str × Str
structure FdOk (f : Fd) : Prop where
  n : txt (.str f.1) 1 20 = true
  v : txt (.str f.2) 0 40 = true
def fdat (f : Fd) : PyData := .tuple [.str f.1, .str f.2]
def FdV (K : PySem.W.Frag) (H : Hp) (v : V) (f : Fd) : Prop := ∃ a, v = .ref a ∧ SqT K H a [.str f.1, .str f.2]
abbrev FdsV (K : PySem.W.Frag) (H : Hp) (xs : List V) (F : List Fd) : Prop := Paired (FdV K H) xs F
theorem FdV.ts {K : PySem.W.Frag} {H H' : Hp} {v : V} {f : Fd} (h : FdV K H v f) (t : TS H H') : FdV K H' v f := let ⟨a, e, s⟩ := h; ⟨a, e, t.tup s⟩
theorem pmap {α β : Type} {R S : α → β → Prop} (f : ∀ x y, R x y → S x y) : ∀ {xs : List α} {ys : List β}, Paired R xs ys → Paired S xs ys
  | _, _, .nil => .nil
  | _, _, .cons h t => .cons (f _ _ h) (pmap f t)
theorem FdsV.ts {K : PySem.W.Frag} {H H' : Hp} {xs : List V} {F : List Fd} (h : FdsV K H xs F) (t : TS H H') : FdsV K H' xs F := pmap (fun _ _ z => z.ts t) h
theorem FdV.dp {K : PySem.W.Frag} {H : Hp} {v : V} {f : Fd} (h : FdV K H v f) : Dp K H v (fdat f) := by
  obtain ⟨a, rfl, s⟩ := h
  exact .tup s (.cons (.str _) (.cons (.str _) .nil))
theorem FdsV.dp {K : PySem.W.Frag} {H : Hp} : ∀ {xs : List V} {F : List Fd}, FdsV K H xs F → DpAll K H xs (F.map fdat)
  | _, _, .nil => .nil
  | _, _, .cons h t => .cons h.dp (FdsV.dp t)
theorem p_at {α β : Type} {R : α → β → Prop} : ∀ {xs : List α} {ys : List β} {i : Nat} {x : α}, Paired R xs ys → xs[i]? = some x → ∃ y, ys[i]? = some y ∧ R x y
  | _, _, _, _, .nil, e => by simp at e
  | _, _, 0, _, .cons h _, e => by simp at e; subst e; exact ⟨_, rfl, h⟩
  | _, _, i + 1, x, .cons _ t, e => by
    obtain ⟨y, h1, h2⟩ := p_at (i := i) (x := x) t (by simpa using e)
    exact ⟨y, by simpa using h1, h2⟩
theorem p_at' {α β : Type} {R : α → β → Prop} : ∀ {xs : List α} {ys : List β} {i : Nat} {y : β}, Paired R xs ys → ys[i]? = some y → ∃ x, xs[i]? = some x ∧ R x y
  | _, _, _, _, .nil, e => by simp at e
  | _, _, 0, _, .cons h _, e => by simp at e; subst e; exact ⟨_, rfl, h⟩
  | _, _, i + 1, x, .cons _ t, e => by
    obtain ⟨y, h1, h2⟩ := p_at' (i := i) (y := x) t (by simpa using e)
    exact ⟨y, by simpa using h1, h2⟩
theorem p_app {α β : Type} {R : α → β → Prop} : ∀ {xs zs : List α} {ys us : List β}, Paired R xs ys → Paired R zs us → Paired R (xs ++ zs) (ys ++ us)
  | _, _, _, _, .nil, s => s
  | _, _, _, _, .cons r t, s => .cons r (p_app t s)
theorem p_rev {α β : Type} {R : α → β → Prop} : ∀ {xs : List α} {ys : List β}, Paired R xs ys → Paired R xs.reverse ys.reverse
  | _, _, .nil => .nil
  | _, _, .cons r t => by
    rw [List.reverse_cons, List.reverse_cons]
    exact p_app (p_rev t) (.cons r .nil)
theorem p_len {α β : Type} {R : α → β → Prop} : ∀ {xs : List α} {ys : List β}, Paired R xs ys → xs.length = ys.length
  | _, _, .nil => rfl
  | _, _, .cons _ t => by rw [List.length_cons, List.length_cons, p_len t]
theorem dField_fd {f : Fd} (h : FdOk f) : dField (fdat f) = true := by
  have h1 : dTxt (.str f.1) 1 20 = true := h.n
  have h2 : dTxt (.str f.2) 0 40 = true := h.v
  show (dTxt (.str f.1) 1 20 && dTxt (.str f.2) 0 40) = true
  rw [h1, h2]; rfl
theorem sz_fd {f : Fd} (h : FdOk f) : Sz 700 1 (fdat f) := by
  have zx := sz_txt (b := 20) h.n
  have zy := sz_txt (b := 40) h.v
  refine sz_tup' (k := 0) ?_ ?_ ?_
  · rw [okVAll, okVAll, okVAll, zx.ok, zy.ok]; rfl
  · have := zx.w; have := zy.w
    rw [wVAll, wVAll, wVAll]; omega
  · exact depthAll_le fun d hd => by
      simp only [List.mem_cons, List.not_mem_nil, or_false] at hd
      rcases hd with rfl | rfl
      · exact zx.dp
      · exact zy.dp
theorem sz_many {b k : Nat} : ∀ {ds : List PyData}, (∀ d ∈ ds, Sz b k d) → okVAll ds = true ∧ wVAll ds ≤ (b + 2) * ds.length ∧ PyData.depthAll ds ≤ k
  | [], _ => ⟨by rw [okVAll], by rw [wVAll]; omega, by rw [PyData.depthAll]; omega⟩
  | d :: ds, h => by
    obtain ⟨h1, h2, h3⟩ := sz_many (ds := ds) fun e he => h e (List.mem_cons_of_mem _ he)
    have z := h d (List.mem_cons_self ..)
    refine ⟨by rw [okVAll, z.ok, h1]; rfl, ?_, ?_⟩
    · rw [wVAll, List.length_cons, Nat.mul_add]; have := z.w; omega
    · rw [PyData.depthAll]; have := z.dp; omega
theorem sz_fds {F : List Fd} (h : ∀ f ∈ F, FdOk f) (hl : F.length ≤ 40) : Sz 30000 2 (.tuple (F.map fdat)) := by
  obtain ⟨h1, h2, h3⟩ := sz_many (b := 700) (k := 1) (ds := F.map fdat) fun d hd => by
    obtain ⟨f, hf, rfl⟩ := List.mem_map.mp hd
    exact sz_fd (h f hf)
  rw [List.length_map] at h2
  have : (700 + 2) * F.length ≤ (700 + 2) * 40 := Nat.mul_le_mul_left _ hl
  exact sz_tup' h1 (by omega) h3
/-! ### settings -/
def SetV (K : PySem.W.Frag) (H : Hp) (v : V) (F : List Fd) (r w : Nat) : Prop := ∃ (a t : Addr) (xs : List V), v = .ref a ∧ SqT K H a [.ref t, .int (r : Nat), .int (w : Nat)] ∧ SqT K H t xs ∧ FdsV K H xs F
structure SetOk (F : List Fd) (r w : Nat) : Prop where
  len : F.length ≤ 12
  fd : ∀ f ∈ F, FdOk f
  r : r ≤ 120
  w : w ≤ 4
def sdat (F : List Fd) (r w : Nat) : PyData := .tuple [.tuple (F.map fdat), .int (r : Nat), .int (w : Nat)]
theorem SetV.ts {K : PySem.W.Frag} {H H' : Hp} {v : V} {F : List Fd} {r w : Nat} (h : SetV K H v F r w) (t : TS H H') : SetV K H' v F r w := let ⟨a, b, xs, e, s1, s2, s3⟩ := h; ⟨a, b, xs, e, t.tup s1, t.tup s2, s3.ts t⟩
theorem SetV.dp {K : PySem.W.Frag} {H : Hp} {v : V} {F : List Fd} {r w : Nat} (h : SetV K H v F r w) : Dp K H v (sdat F r w) := by
  obtain ⟨a, b, xs, rfl, s1, s2, s3⟩ := h
  exact .tup s1 (.cons (.tup s2 s3.dp) (.cons (.int _) (.cons (.int _) .nil)))
theorem nat_btw' {k a b : Nat} (h1 : a ≤ k) (h2 : k ≤ b) : dBtw (.int (k : Nat)) (a : Nat) (b : Nat) = true := by
  show (decide (((a : Nat) : Int) ≤ (k : Nat)) && decide (((k : Nat) : Int) ≤ (b : Nat))) = true
  rw [decide_eq_true (by omega), decide_eq_true (by omega)]; rfl
theorem dSetting_ok {F : List Fd} {r w : Nat} (h : SetOk F r w) : dSetting (sdat F r w) = true := by
  show (dFields 12 (.tuple (F.map fdat)) && dBtw (.int (r : Nat)) 0 120 && dBtw (.int (w : Nat)) 0 4) = true
  have e1 : dFields 12 (.tuple (F.map fdat)) = true := by
    show (decide ((F.map fdat).length ≤ 12) && (F.map fdat).all dField) = true
    rw [List.length_map, decide_eq_true h.len, Bool.true_and, List.all_eq_true]
    intro d hd
    obtain ⟨f, hf, rfl⟩ := List.mem_map.mp hd
    exact dField_fd (h.fd f hf)
  have e2 : dBtw (.int (r : Nat)) 0 120 = true := nat_btw' (a := 0) (b := 120) (by omega) h.r
  have e3 : dBtw (.int (w : Nat)) 0 4 = true := nat_btw' (a := 0) (b := 4) (by omega) h.w
  rw [e1, e2, e3]; rfl
theorem sz_set {F : List Fd} {r w : Nat} (h : SetOk F r w) : Sz 40000 3 (sdat F r w) := by
  have zf := sz_fds h.fd (by have := h.len; omega)
  have h3 : (200 : Nat) < 2 ^ 1000 := by decide +kernel
  have ir : Sz 1010 0 (.int (r : Nat)) := sz_int (by have := h.r; omega)
  have iw : Sz 1010 0 (.int (w : Nat)) := sz_int (by have := h.w; omega)
  refine sz_tup' (k := 2) ?_ ?_ ?_
  · rw [okVAll, okVAll, okVAll, okVAll, zf.ok, ir.ok, iw.ok]; rfl
  · have := zf.w; have := ir.w; have := iw.w
    rw [wVAll, wVAll, wVAll, wVAll]; omega
  · refine depthAll_le fun d hd => ?_
    simp only [List.mem_cons, List.not_mem_nil, or_false] at hd
    rcases hd with rfl | rfl | rfl
    · exact zf.dp
    · exact Nat.le_trans ir.dp (by decide)
    · exact Nat.le_trans iw.dp (by decide)
/-! ### entries -/
abbrev Ent := List (Nat × Fd)
def nkey (n : Nat) : Key := Sum.inl ((n : Nat) : Int)
theorem nkey_inj {a b : Nat} (h : nkey a = nkey b) : a = b := by
  have := Sum.inl.inj h
  omega
def PrV (K : PySem.W.Frag) (H : Hp) (p : Key × V) (e : Nat × Fd) : Prop := p.1 = nkey e.1 ∧ FdV K H p.2 e.2
theorem PrV.ts {K : PySem.W.Frag} {H H' : Hp} {p : Key × V} {e : Nat × Fd} (h : PrV K H p e) (t : TS H H') : PrV K H' p e := ⟨h.1, h.2.ts t⟩
def EntV (K : PySem.W.Frag) (H : Hp) (D : Addr) (es : Ent) : Prop := ∃ kvs, H D = some (.dK kvs) ∧ Paired (PrV K H) kvs es
def lookE (es : Ent) (n : Nat) : Option Fd := (es.find? fun e => decide (e.1 = n)).map (·.2)
def putE (es : Ent) (n : Nat) (f : Fd) : Ent := if (es.any fun e => decide (e.1 = n)) = true then es.map (fun e => if e.1 = n then (e.1, f) else e) else es ++ [(n, f)]
def dropE (es : Ent) (n : Nat) : Ent := es.filter fun e => decide (e.1 ≠ n)
structure EsOk (m : Nat) (es : Ent) : Prop where
  len : es.length ≤ m
  key : ∀ e ∈ es, e.1 ≤ 40
  fd : ∀ e ∈ es, FdOk e.2
  nd : (es.map (·.1)).Nodup
theorem EntV.ts {K : PySem.W.Frag} {H H' : Hp} {D : Addr} {es : Ent} (h : EntV K H D es) (t : TS H H') (e : ∀ o, H D = some o → H' D = some o) : EntV K H' D es := let ⟨kvs, h1, h2⟩ := h; ⟨kvs, e _ h1, pmap (fun _ _ z => z.ts t) h2⟩
theorem EntV.same {K : PySem.W.Frag} {H H' : Hp} {D : Addr} {es : Ent} (h : EntV K H D es) (s : Same H H') : EntV K H' D es := h.ts (.of s) fun o e => s _ _ e
/-- a value or None -/
def OFd (K : PySem.W.Frag) (H : Hp) (v : V) : Option Fd → Prop
  | none => v = .non
  | some f => FdV K H v f
theorem OFd.ts {K : PySem.W.Frag} {H H' : Hp} {v : V} {o : Option Fd} (h : OFd K H v o) (t : TS H H') : OFd K H' v o := by
  cases o with
  | none => exact h
  | some f => exact FdV.ts h t
theorem look_get {K : PySem.W.Frag} {H : Hp} {n : Nat} : ∀ {kvs : List (Key × V)} {es : Ent}, Paired (PrV K H) kvs es → (valV kvs (nkey n) = none ∧ lookE es n = none) ∨ ∃ v f, valV kvs (nkey n) = some v ∧ lookE es n = some f ∧ FdV K H v f
  | _, _, .nil => .inl ⟨rfl, rfl⟩
  | p :: kvs, e :: es, .cons h t => by
    by_cases c : e.1 = n
    · refine .inr ⟨p.2, e.2, ?_, ?_, h.2⟩
      · exact valV_pos (by rw [h.1, c])
      · unfold lookE; rw [List.find?_cons, decide_eq_true c]; rfl
    · have e1 : valV (p :: kvs) (nkey n) = valV kvs (nkey n) := valV_neg (by rw [h.1]; exact fun z => c (nkey_inj z))
      have e2 : lookE (e :: es) n = lookE es n := by unfold lookE; rw [List.find?_cons, decide_eq_false c]
      rw [e1, e2]
      exact look_get t
theorem any_get {K : PySem.W.Frag} {H : Hp} {n : Nat} : ∀ {kvs : List (Key × V)} {es : Ent}, Paired (PrV K H) kvs es → (kvs.any fun kv => decide (kv.1 = nkey n)) = es.any fun e => decide (e.1 = n)
  | _, _, .nil => rfl
  | p :: kvs, e :: es, .cons h t => by
    rw [List.any_cons, List.any_cons, any_get t]
    congr 1
    exact decide_eq_decide.mpr ⟨fun z => nkey_inj (h.1.symm.trans z), fun z => by rw [h.1, z]⟩
theorem put_get {K : PySem.W.Frag} {H : Hp} {n : Nat} {v : V} {f : Fd} {kvs : List (Key × V)} {es : Ent} (h : Paired (PrV K H) kvs es) (hf : FdV K H v f) : Paired (PrV K H) (putK kvs (nkey n) v) (putE es n f) := by
  have go : ∀ {kvs : List (Key × V)} {es : Ent}, Paired (PrV K H) kvs es → Paired (PrV K H) (kvs.map fun kv => if kv.1 = nkey n then (kv.1, v) else kv) (es.map fun e => if e.1 = n then (e.1, f) else e) := by
    intro kvs es h
    induction h with
    | nil => exact .nil
    | @cons p e _ _ h t ih =>
      rw [List.map_cons, List.map_cons]
      refine .cons ?_ ih
      by_cases c : e.1 = n
      · rw [if_pos c, if_pos (by rw [h.1, c])]; exact ⟨h.1, hf⟩
      · rw [if_neg c, if_neg (by rw [h.1]; exact fun z => c (nkey_inj z))]; exact h
  unfold putK putE
  rw [any_get h]
  by_cases c : (es.any fun e => decide (e.1 = n)) = true
  · rw [if_pos c, if_pos c]; exact go h
  · rw [if_neg c, if_neg c]; exact p_app h (.cons ⟨rfl, hf⟩ .nil)
theorem drop_get {K : PySem.W.Frag} {H : Hp} {n : Nat} : ∀ {kvs : List (Key × V)} {es : Ent}, Paired (PrV K H) kvs es → Paired (PrV K H) (dropK kvs (nkey n)) (dropE es n)
  | _, _, .nil => .nil
  | p :: kvs, e :: es, .cons h t => by
    unfold dropK dropE
    rw [List.filter_cons, List.filter_cons]
    by_cases c : e.1 = n
    · rw [if_neg (by simp [h.1, c]), if_neg (by simp [c])]; exact drop_get t
    · rw [if_pos (by simp only [decide_eq_true_eq]; rw [h.1]; exact fun z => c (nkey_inj z)), if_pos (by simp [c])]; exact .cons h (drop_get t)
theorem len_putE (es : Ent) (n : Nat) (f : Fd) : (putE es n f).length ≤ es.length + 1 := by
  unfold putE
  split
  · rw [List.length_map]; omega
  · simp
theorem keys_map (es : Ent) (n : Nat) (f : Fd) : (es.map fun e => if e.1 = n then (e.1, f) else e).map (·.1) = es.map (·.1) := by
  rw [List.map_map]
  apply List.map_congr_left
  intro e _
  show (if e.1 = n then (e.1, f) else e).1 = e.1
  split <;> rfl
theorem EsOk.put {m n : Nat} {es : Ent} {f : Fd} (h : EsOk m es) (hn : n ≤ 40) (hf : FdOk f) : EsOk (m + 1) (putE es n f) := by
  refine ⟨by have := len_putE es n f; have := h.len; omega, ?_, ?_, ?_⟩
  · intro e he
    unfold putE at he
    split at he
    · obtain ⟨x, hx, rfl⟩ := List.mem_map.mp he
      have := h.key x hx
      split <;> exact this
    · rcases List.mem_append.mp he with z | z
      · exact h.key e z
      · rw [List.mem_singleton.mp z]; exact hn
  · intro e he
    unfold putE at he
    split at he
    · obtain ⟨x, hx, rfl⟩ := List.mem_map.mp he
      have := h.fd x hx
      split
      · exact hf
      · exact this
    · rcases List.mem_append.mp he with z | z
      · exact h.fd e z
      · rw [List.mem_singleton.mp z]; exact hf
  · unfold putE
    split
    · rw [keys_map]; exact h.nd
    · rename_i c
      rw [List.map_append, List.nodup_append]
      refine ⟨h.nd, by simp, ?_⟩
      rintro a ha b hb rfl
      have : a = n := by simpa using hb
      subst this
      obtain ⟨e, he, rfl⟩ := List.mem_map.mp ha
      exact c (List.any_eq_true.mpr ⟨e, he, decide_eq_true rfl⟩)
theorem EsOk.drop {m n : Nat} {es : Ent} (h : EsOk m es) : EsOk m (dropE es n) :=
  ⟨Nat.le_trans (List.length_filter_le _ _) h.len, fun e he => h.key e (List.mem_filter.mp he).1, fun e he => h.fd e (List.mem_filter.mp he).1, (List.Sublist.map _ List.filter_sublist).nodup h.nd⟩
theorem EsOk.mono {m m' : Nat} {es : Ent} (h : EsOk m es) (l : m ≤ m') : EsOk m' es := ⟨Nat.le_trans h.len l, h.key, h.fd, h.nd⟩
theorem look_put (es : Ent) (n : Nat) (f : Fd) : lookE (putE es n f) n = some f := by
  unfold putE
  split
  · rename_i c
    induction es with
    | nil => cases c
    | cons e es ih =>
      rw [List.map_cons]
      by_cases d : e.1 = n
      · unfold lookE; rw [if_pos d, List.find?_cons, decide_eq_true d]; rfl
      · rw [List.any_cons, decide_eq_false d, Bool.false_or] at c
        have := ih c
        unfold lookE at this ⊢
        rw [if_neg d, List.find?_cons, decide_eq_false d]
        exact this
  · rename_i c
    induction es with
    | nil => unfold lookE; rw [List.nil_append, List.find?_cons, decide_eq_true rfl]; rfl
    | cons e es ih =>
      rw [List.any_cons, Bool.or_eq_true, not_or] at c
      have d : ¬ e.1 = n := fun z => c.1 (decide_eq_true z)
      have := ih c.2
      unfold lookE at this ⊢
      rw [List.cons_append, List.find?_cons, decide_eq_false d]
      exact this
theorem look_some_iff {es : Ent} (nd : (es.map (·.1)).Nodup) {n : Nat} {f : Fd} : lookE es n = some f ↔ (n, f) ∈ es := by
  induction es with
  | nil => simp [lookE]
  | cons e es ih =>
    rw [List.map_cons, List.nodup_cons] at nd
    have ih := ih nd.2
    unfold lookE at ih ⊢
    rw [List.find?_cons]
    by_cases c : e.1 = n
    · rw [decide_eq_true c]
      constructor
      · intro h
        have h2 : e.2 = f := Option.some.inj h
        rw [← c, ← h2]; exact List.mem_cons_self ..
      · intro h
        rcases List.mem_cons.mp h with h | h
        · rw [← h]; rfl
        · exact absurd (List.mem_map.mpr ⟨_, h, rfl⟩) (by rw [c] at nd; exact nd.1)
    · rw [decide_eq_false c]
      refine ih.trans ⟨fun h => List.mem_cons_of_mem _ h, fun h => ?_⟩
      rcases List.mem_cons.mp h with h | h
      · exact absurd (by rw [← h]) c
      · exact h
theorem nd_rev {l : List Nat} (h : l.Nodup) : l.reverse.Nodup := List.pairwise_reverse.mpr (List.Pairwise.imp (fun h => Ne.symm h) h)
theorem look_rev {es : Ent} (nd : (es.map (·.1)).Nodup) (n : Nat) : lookE es.reverse n = lookE es n := by
  have nd2 : (es.reverse.map (·.1)).Nodup := by rw [List.map_reverse]; exact nd_rev nd
  cases h : lookE es n with
  | some f =>
    exact (look_some_iff nd2).mpr (List.mem_reverse.mpr ((look_some_iff nd).mp h))
  | none =>
    cases h2 : lookE es.reverse n with
    | none => rfl
    | some f =>
      have := (look_some_iff nd).mpr (List.mem_reverse.mp ((look_some_iff nd2).mp h2))
      rw [h] at this; cases this
theorem EsOk.rev {m : Nat} {es : Ent} (h : EsOk m es) : EsOk m es.reverse :=
  ⟨by rw [List.length_reverse]; exact h.len, fun e he => h.key e (List.mem_reverse.mp he), fun e he => h.fd e (List.mem_reverse.mp he), by rw [List.map_reverse]; exact nd_rev h.nd⟩
/-- a dict of pairs whose keys differ -/
theorem merge_app : ∀ (more acc : List (Key × V)), ((acc ++ more).map (·.1)).Nodup → mergeK acc more = acc ++ more
  | [], acc, _ => by rw [List.append_nil]; rfl
  | kv :: more, acc, h => by
    have h1 : valV acc kv.1 = none := by
      rw [List.map_append, List.map_cons, List.nodup_append] at h
      unfold valV
      rw [Option.map_eq_none_iff, List.find?_eq_none]
      intro x hx z
      exact h.2.2 x.1 (List.mem_map.mpr ⟨x, hx, rfl⟩) kv.1 (List.mem_cons_self ..) (of_decide_eq_true z)
    show mergeK (putK acc kv.1 kv.2) more = _
    rw [putK_new _ h1]
    have := merge_app more (acc ++ [(kv.1, kv.2)]) (by rw [List.append_assoc]; exact h)
    rw [this, List.append_assoc]
    rfl
theorem keys_nd {K : PySem.W.Frag} {H : Hp} {kvs : List (Key × V)} {es : Ent} (h : Paired (PrV K H) kvs es) (nd : (es.map (·.1)).Nodup) : (kvs.map (·.1)).Nodup := by
  have e : kvs.map (·.1) = (es.map (·.1)).map nkey := by
    induction h with
    | nil => rfl
    | cons h t ih =>
      rw [List.map_cons, List.nodup_cons] at nd
      rw [List.map_cons, List.map_cons, List.map_cons, ih nd.2, h.1]
  rw [e]
  clear e h
  induction es with
  | nil => exact List.nodup_nil
  | cons x xs ih =>
    rw [List.map_cons, List.nodup_cons] at nd
    rw [List.map_cons, List.map_cons, List.nodup_cons]
    refine ⟨fun z => ?_, ih nd.2⟩
    obtain ⟨y, hy, e⟩ := List.mem_map.mp z
    exact nd.1 (nkey_inj e ▸ hy)
/-! ### what a block says -/
def said1 (F : List Fd) (es : Ent) : Ln → Option Fd
  | .fix1 n => F[n]?
  | .fix2 n x => (F[n]?).map fun f => (f.1, x)
  | .ent1 n => lookE es n
  | .ent2 n x => (lookE es n).map fun f => (f.1, x)
  | .out y x => some (y, x)
def saidL (F : List Fd) (es : Ent) : List Ln → Option (List Fd)
  | [] => some []
  | l :: ls => match said1 F es l with
    | none => none
    | some f => (saidL F es ls).map (f :: ·)
theorem said1_congr {F : List Fd} {es es' : Ent} (h : ∀ n, lookE es' n = lookE es n) (l : Ln) : said1 F es' l = said1 F es l := by
  cases l with
  | fix1 n => rfl
  | fix2 n x => rfl
  | ent1 n => exact h n
  | ent2 n x => show (lookE es' n).map _ = _; rw [h n]; rfl
  | out y x => rfl
theorem saidL_congr {F : List Fd} {es es' : Ent} (h : ∀ n, lookE es' n = lookE es n) : ∀ ls, saidL F es' ls = saidL F es ls
  | [] => rfl
  | l :: ls => by unfold saidL; rw [said1_congr h, saidL_congr h ls]
def resD : Option (List Fd) → PyData
  | none => .none
  | some fs => .tuple (fs.map fdat)
theorem saidL_len {F : List Fd} {es : Ent} : ∀ {ls : List Ln} {fs : List Fd}, saidL F es ls = some fs → fs.length = ls.length
  | [], fs, h => by cases h; rfl
  | l :: ls, fs, h => by
    unfold saidL at h
    cases e : said1 F es l with
    | none => rw [e] at h; cases h
    | some f =>
      rw [e] at h
      cases e2 : saidL F es ls with
      | none => simp only [e2] at h; cases h
      | some gs =>
        simp only [e2] at h
        cases h
        rw [List.length_cons, List.length_cons, saidL_len e2]
/-- the values of all lines: one is None, or all are fields -/
theorem said_all {K : PySem.W.Frag} {H : Hp} {F : List Fd} {es : Ent} : ∀ {ls : List Ln} {vs : List V}, Paired (fun v l => OFd K H v (said1 F es l)) vs ls →
    (saidL F es ls = none ∧ (∃ v ∈ vs, v = .non)) ∨ ∃ fs, saidL F es ls = some fs ∧ FdsV K H vs fs
  | _, _, .nil => .inr ⟨[], rfl, .nil⟩
  | l :: ls, v :: vs, .cons h t => by
    unfold saidL
    cases e : said1 F es l with
    | none => rw [e] at h; exact .inl ⟨rfl, v, List.mem_cons_self .., h⟩
    | some f =>
      rw [e] at h
      rcases said_all t with ⟨e2, w, hw, ew⟩ | ⟨fs, e2, hf⟩
      · refine .inl ⟨by simp only [e2]; rfl, w, List.mem_cons_of_mem _ hw, ew⟩
      · exact .inr ⟨f :: fs, by simp only [e2]; rfl, .cons h hf⟩
theorem LnV.ts {K : PySem.W.Frag} {H H' : Hp} {v : V} {l : Ln} (h : LnV K H v l) (t : TS H H') : LnV K H' v l := let ⟨a, e, s⟩ := h; ⟨a, e, t.tup s⟩
theorem LnsV.ts {K : PySem.W.Frag} {H H' : Hp} (t : TS H H') : ∀ {xs : List V} {ls : List Ln}, LnsV K H xs ls → LnsV K H' xs ls
  | _, _, .nil => .nil
  | _, _, .cons h s => .cons (h.ts t) (LnsV.ts t s)
theorem BlkV.ts {K : PySem.W.Frag} {H H' : Hp} {v : V} {b : Blk} (h : BlkV K H v b) (t : TS H H') : BlkV K H' v b := let ⟨a, u, xs, e, s1, s2, s3⟩ := h; ⟨a, u, xs, e, t.tup s1, t.tup s2, LnsV.ts t s3⟩
/-! ### None in a list of None and tuples -/
def NoT (K : PySem.W.Frag) (H : Hp) (z : V) : Prop := z = .non ∨ ∃ a xs, z = .ref a ∧ SqT K H a xs
theorem noT_any {K : PySem.W.Frag} {H : Hp} : ∀ {xs : List V} {us : List Value}, Vals xs us → (∀ z ∈ xs, NoT K H z) → us.any PySem.Numpy.isNone = xs.any isNon
  | _, _, .nil, _ => rfl
  | x :: xs, u :: us, .cons r t, f => by
    rw [List.any_cons, List.any_cons, noT_any t fun z hz => f z (List.mem_cons_of_mem _ hz)]
    congr 1
    rcases f x (List.mem_cons_self ..) with rfl | ⟨a, ys, rfl, _⟩
    · cases r; rfl
    · cases r; rfl
def rNoneInT (K : PySem.W.Frag) : R2 := fun x y H Q => ∃ p xs, x = .non ∧ y = .ref p ∧ SqL K H p xs ∧ (∀ z ∈ xs, NoT K H z) ∧ Q (.bl (xs.any isNon)) H
theorem noT_mem {X : Cx} {A : Around} {pins : List (Addr × Obj)} {σ : L2.St} {H : Hp} {s : Shared} (I : Inv X pins σ H s) (hu : A.units < cLine) : ∀ {xs : List V} {us : List Value}, Vals xs us → (∀ z ∈ xs, NoT X.K H z) → ∀ u ∈ us, SeqAt.EqAt A s u .none (PySem.Numpy.isNone u)
  | _, _, .nil, _ => fun u hu' => nomatch hu'
  | y :: xs, u :: us, .cons r t, f => fun u' hu' => by
    rcases List.mem_cons.mp hu' with e | hu'
    · subst e
      rcases f y (List.mem_cons_self ..) with rfl | ⟨a, ys, rfl, h⟩
      · cases r; exact SeqAt.EqAt.same _
      · cases r
        obtain ⟨its, rv, pl, _⟩ := I.tuple h
        exact SeqAt.EqAt.tuple_none pl hu
    · exact noT_mem I hu t (fun z hz => f z (List.mem_cons_of_mem _ hz)) u' hu'
theorem op_noneInT {X : Cx} (hu : X.A.units + 64 < cLine) : OpR X (compareOp .In) (rNoneInT X.K) := by
  intro pins s σ H x y v u Q I rx ry h
  obtain ⟨p, xs, rfl, rfl, hq, f, q⟩ := h
  cases rx
  cases ry
  obtain ⟨its, rv, hl, _⟩ := I.list hq
  have hu1 : X.A.in1.units < cLine := by show X.A.units + 1 < cLine; omega
  refine SeqAt.in_listAt PySem.Numpy.isNone hl.isList (fun z hz => noT_mem I hu1 rv f z (by simpa using hz)) ⟨.bl _, H, I, rfl, ?_⟩
  rw [show its.toArray.any PySem.Numpy.isNone = its.any PySem.Numpy.isNone by simp, noT_any rv f]
  exact q
end Fld
namespace Fld
open PySem PySem.Spec PyProof.Rows L2
def sp_are_entries (K : PySem.W.Frag) : Sp := fun vs H Q _ => ∃ (D : Addr) (es : Ent), vs = [.ref D] ∧ EntV K H D es ∧ EsOk 24 es ∧ ∀ H', Same H H' → Q (.bl true) H'
def sp_check_entries (K : PySem.W.Frag) : Sp := fun vs H Q _ => ∃ (D : Addr) (es : Ent), vs = [.ref D] ∧ EntV K H D es ∧ EsOk 24 es ∧ ∀ H', Same H H' → Q .non H'
def sp_check_setting (K : PySem.W.Frag) : Sp := fun vs H Q _ => ∃ (v : V) (F : List Fd) (r w : Nat), vs = [v] ∧ SetV K H v F r w ∧ SetOk F r w ∧ ∀ H', Same H H' → Q .non H'
/-- fixed fields and entries -/
structure TabV (K : PySem.W.Frag) (H : Hp) (t D : Addr) (F : List Fd) (es : Ent) : Prop where
  fx : ∃ xs, SqT K H t xs ∧ FdsV K H xs F
  en : EntV K H D es
theorem TabV.ts {K : PySem.W.Frag} {H H' : Hp} {t D : Addr} {F : List Fd} {es : Ent} (h : TabV K H t D F es) (s : TS H H') (e : ∀ o, H D = some o → H' D = some o) : TabV K H' t D F es :=
  ⟨let ⟨xs, a, b⟩ := h.fx; ⟨xs, s.tup a, b.ts s⟩, h.en.ts s e⟩
theorem TabV.same {K : PySem.W.Frag} {H H' : Hp} {t D : Addr} {F : List Fd} {es : Ent} (h : TabV K H t D F es) (s : Same H H') : TabV K H' t D F es := h.ts (.of s) fun o e => s _ _ e
def sp_referred (K : PySem.W.Frag) : Sp := fun vs H Q _ => ∃ (t D : Addr) (F : List Fd) (es : Ent) (k : Str) (n : Nat), vs = [.ref t, .ref D, .str k, .int n] ∧ TabV K H t D F es ∧
  ((k = "fixed" ∧ ∀ v, OFd K H v (F[n]?) → Q v H) ∨ (k = "entry" ∧ ∀ v, OFd K H v (lookE es n) → Q v H))
def sp_said_field (K : PySem.W.Frag) : Sp := fun vs H Q _ => ∃ (t D : Addr) (F : List Fd) (es : Ent) (v : V) (l : Ln), vs = [.ref t, .ref D, v] ∧ TabV K H t D F es ∧ LnV K H v l ∧ ∀ r H', Same H H' → OFd K H' r (said1 F es l) → Q r H'
def sp_said_fields (K : PySem.W.Frag) : Sp := fun vs H Q _ => ∃ (t D u : Addr) (F : List Fd) (es : Ent) (ys : List V) (ls : List Ln), vs = [.ref t, .ref D, .ref u] ∧ TabV K H t D F es ∧ SqT K H u ys ∧ LnsV K H ys ls ∧ ls.length ≤ 16 ∧
  ∀ r H', Same H H' → Dp K H' r (resD (saidL F es ls)) → Q r H'
def sp_says (K : PySem.W.Frag) : Sp := fun vs H Q _ => ∃ (sv bv : V) (D : Addr) (F : List Fd) (r w : Nat) (es : Ent) (b : Blk), vs = [sv, .ref D, bv] ∧ SetV K H sv F r w ∧ SetOk F r w ∧ EntV K H D es ∧ EsOk 24 es ∧ BlkV K H bv b ∧ b.Ok ∧
  ∀ rv H', Same H H' → Dp K H' rv (resD (saidL F es b.ls)) → Q rv H'
theorem look_mem {es : Ent} {n : Nat} {f : Fd} (h : lookE es n = some f) : (n, f) ∈ es := by
  unfold lookE at h
  rw [Option.map_eq_some_iff] at h
  obtain ⟨e, h1, h2⟩ := h
  have h3 := List.mem_of_find?_eq_some h1
  have h4 : e.1 = n := by have := List.find?_some h1; simpa using this
  subst h4 h2; exact h3
theorem look_has {es : Ent} {n : Nat} {f : Fd} (h : (n, f) ∈ es) : ∃ g, lookE es n = some g := by
  cases e : lookE es n with
  | some g => exact ⟨g, rfl⟩
  | none =>
    unfold lookE at e
    rw [Option.map_eq_none_iff, List.find?_eq_none] at e
    exact absurd (decide_eq_true rfl) (e _ h)
theorem lim_fd {f : Fd} (h : FdOk f) : Lim (fdat f) := ⟨(sz_fd h).ok, by have := (sz_fd h).w; omega⟩
theorem lim_set {F : List Fd} {r w : Nat} (h : SetOk F r w) : Lim (sdat F r w) := ⟨(sz_set h).ok, by have := (sz_set h).w; omega⟩
end Fld
namespace Fld
open PySem PySem.Spec PyProof.Rows L2
theorem saidL_none {F : List Fd} {es : Ent} {l : Ln} : ∀ {ls : List Ln}, l ∈ ls → said1 F es l = none → saidL F es ls = none
  | k :: ls, h, e => by
    unfold saidL
    rcases List.mem_cons.mp h with rfl | h
    · rw [e]
    · cases said1 F es k with
      | none => rfl
      | some f => simp only [saidL_none h e]; rfl
def SomeFd (K : PySem.W.Frag) (H : Hp) (F : List Fd) (es : Ent) (v : V) (l : Ln) : Prop := ∃ f, said1 F es l = some f ∧ FdV K H v f
theorem SomeFd.ts {K : PySem.W.Frag} {H H' : Hp} {F : List Fd} {es : Ent} {v : V} {l : Ln} (h : SomeFd K H F es v l) (t : TS H H') : SomeFd K H' F es v l := let ⟨f, e, g⟩ := h; ⟨f, e, g.ts t⟩
theorem saidL_some {K : PySem.W.Frag} {H : Hp} {F : List Fd} {es : Ent} : ∀ {ls : List Ln} {vs : List V}, Paired (SomeFd K H F es) vs ls → ∃ fs, saidL F es ls = some fs ∧ FdsV K H vs fs
  | _, _, .nil => ⟨[], rfl, .nil⟩
  | l :: ls, v :: vs, .cons ⟨f, e, h⟩ t => by
    obtain ⟨fs, e2, h2⟩ := saidL_some t
    exact ⟨f :: fs, by unfold saidL; rw [e]; simp only [e2]; rfl, .cons h h2⟩
def sp_near_field (K : PySem.W.Frag) : Sp := fun vs H Q _ => ∃ (p c : Addr) (n : Nat), vs = [.ref p] ∧ Pen H p c n ∧ n ≤ 700000 ∧ ∀ v f H', FdV K H' v f → FdOk f → Drew p c H H' (n + 110) → Q v H'
def sp_draw_setting (K : PySem.W.Frag) : Sp := fun vs H Q _ => ∃ (p c : Addr) (n : Nat), vs = [.ref p] ∧ Pen H p c n ∧ n ≤ 600000 ∧ ∀ v F r w H', SetV K H' v F r w → SetOk F r w → Drew p c H H' (n + 1500) → Q v H'
def sp_law_said (K : PySem.W.Frag) : Sp := fun vs H Q _ => ∃ (t D : Addr) (bv : V) (F : List Fd) (es : Ent) (b : Blk), vs = [.ref t, .ref D, bv] ∧ TabV K H t D F es ∧ BlkV K H bv b ∧ b.ls.length ≤ 16 ∧
  ∀ r H', Same H H' → Dp K H' r (resD (saidL F es b.ls)) → Q r H'
def sp_draw_entries (K : PySem.W.Frag) : Sp := fun vs H Q _ => ∃ (p c : Addr) (n : Nat), vs = [.ref p] ∧ Pen H p c n ∧ n ≤ 600000 ∧ ∀ D es H', H D = none → EntV K H' D es → EsOk 24 es → (∀ e ∈ es, e.1 ≤ 39) → Drew p c H H' (n + 4000) → Q (.ref D) H'
def sp_draw_lines (K : PySem.W.Frag) : Sp := fun vs H Q _ => ∃ (p c t D : Addr) (n req : Nat) (F : List Fd) (es : Ent), vs = [.ref p, .ref t, .ref D, .int req] ∧ Pen H p c n ∧ n ≤ 600000 ∧ TabV K H t D F es ∧ F.length ≤ 12 ∧ EsOk 24 es ∧ req ≤ 41 ∧
  ∀ u ys ls H', SqT K H' u ys → LnsV K H' ys ls → (∀ l ∈ ls, l.Ok req) → ls.length ≤ 16 → Drew p c H H' (n + 4000) → Q (.ref u) H'
def nearNames : List Str := ["a", "ab", "path", ":method", "x"]
def nearVals : List Str := ["", "1", "get", "x=1", "on"]
theorem near_ok : (nearNames.all fun z => txt (.str z) 1 20) = true ∧ (nearVals.all fun z => txt (.str z) 0 40) = true := by constructor <;> decide +kernel
end Fld
namespace Fld
open PySem PySem.Spec PyProof.Rows L2
theorem keys_inl {K : PySem.W.Frag} {H : Hp} : ∀ {kvs : List (Key × V)} {es : Ent}, Paired (PrV K H) kvs es → kvs.map (·.1) = (es.map fun e => ((e.1 : Nat) : Int)).map Sum.inl
  | _, _, .nil => rfl
  | _, _, .cons h t => by rw [List.map_cons, List.map_cons, List.map_cons, keys_inl t, h.1]; rfl
theorem keys_kV {K : PySem.W.Frag} {H : Hp} : ∀ {kvs : List (Key × V)} {es : Ent}, Paired (PrV K H) kvs es → (kvs.map fun kv => kV kv.1) = (es.map fun e => ((e.1 : Nat) : Int)).map V.int
  | _, _, .nil => rfl
  | _, _, .cons h t => by rw [List.map_cons, List.map_cons, List.map_cons, keys_kV t, h.1]; rfl
/-- some lines to draw one of -/
structure SomeLn (K : PySem.W.Frag) (p c : Addr) (H5 H' : Hp) (L : Addr) (req N : Nat) : Prop where
  pen : Pen H' p c N
  but : But p H5 H'
  ex : ∃ xs, H' L = some (.lst xs) ∧ xs ≠ [] ∧ xs.length ≤ 2 ∧ ∀ x ∈ xs, ∃ l, LnV K H' x l ∧ l.Ok req
  ne : L ≠ p
theorem SomeLn.mono {K : PySem.W.Frag} {p c : Addr} {H5 H' : Hp} {L : Addr} {req N M : Nat} (h : SomeLn K p c H5 H' L req N) (l : N ≤ M) : SomeLn K p c H5 H' L req M := ⟨h.pen.mono l, h.but, h.ex, h.ne⟩
end Fld
/-! entries as data; what two dicts of the same entries say -/
namespace Fld
open PySem PySem.Spec PyProof.Rows L2
def ekv (es : Ent) : List (PyData × PyData) := es.map fun e => (PyData.int (e.1 : Nat), fdat e.2)
theorem ekv_keys {K : PySem.W.Frag} {H : Hp} : ∀ {kvs : List (Key × V)} {es : Ent}, Paired (PrV K H) kvs es → kvs.map (fun p => ofK p.1) = (ekv es).map (·.1)
  | _, _, .nil => rfl
  | _, _, .cons h t => by
    unfold ekv
    rw [List.map_cons, List.map_cons, List.map_cons, ekv_keys t, h.1]; rfl
theorem ekv_vals {K : PySem.W.Frag} {H : Hp} : ∀ {kvs : List (Key × V)} {es : Ent}, Paired (PrV K H) kvs es → DvAll K H (kvs.map (·.2)) ((ekv es).map (·.2))
  | _, _, .nil => .nil
  | _, _, .cons h t => .cons (.ofDp h.2.dp) (ekv_vals t)
theorem EntV.dv {K : PySem.W.Frag} {H : Hp} {D : Addr} {es : Ent} (h : EntV K H D es) : Dv K H (.ref D) (.dict (ekv es)) := by
  obtain ⟨kvs, hD, hp⟩ := h
  exact .dic hD (ekv_keys hp) (ekv_vals hp)
theorem sz_kv : ∀ {es : Ent}, (∀ e ∈ es, e.1 ≤ 40 ∧ FdOk e.2) → okVKv (ekv es) = true ∧ wVKv (ekv es) ≤ 1716 * es.length ∧ PyData.depthKv (ekv es) ≤ 1
  | [], _ => ⟨by unfold ekv; rw [List.map_nil, okVKv], by unfold ekv; rw [List.map_nil, wVKv]; omega, by unfold ekv; rw [List.map_nil, PyData.depthKv]; omega⟩
  | e :: es, h => by
    obtain ⟨h1, h2, h3⟩ := sz_kv (es := es) fun x hx => h x (List.mem_cons_of_mem _ hx)
    obtain ⟨k40, fok⟩ := h e (List.mem_cons_self ..)
    have z := sz_fd fok
    have zi : Sz 1010 0 (.int (e.1 : Nat)) := sz_int (by have h3 : (200 : Nat) < 2 ^ 1000 := by decide +kernel
                                                         omega)
    have e0 : ekv (e :: es) = (PyData.int (e.1 : Nat), fdat e.2) :: ekv es := rfl
    rw [e0]
    refine ⟨by rw [okVKv, zi.ok, z.ok, h1]; rfl, ?_, ?_⟩
    · rw [wVKv, List.length_cons]; have := zi.w; have := z.w; omega
    · rw [PyData.depthKv]; have := zi.dp; have := z.dp; omega
theorem sz_ent {m : Nat} {es : Ent} (h : EsOk m es) (hm : m ≤ 40) : Sz 80000 2 (.dict (ekv es)) := by
  obtain ⟨h1, h2, h3⟩ := sz_kv (es := es) fun e he => ⟨h.key e he, h.fd e he⟩
  have hl := h.len
  have : 1716 * es.length ≤ 1716 * 40 := Nat.mul_le_mul_left _ (by omega)
  exact ⟨by rw [okV]; exact h1, by rw [wV]; omega, by rw [PyData.depth]; omega⟩
theorem sz_ln {r : Nat} {l : Ln} (hr : r ≤ 9999) (ok : l.Ok r) : Sz 1500 1 l.dat := by
  have hi : ∀ n : Nat, n ≤ 9999 → Sz 1010 0 (.int (n : Nat)) := fun n h => sz_int (Nat.lt_of_le_of_lt (show n ≤ 9999 from h) (by decide +kernel))
  have hx : ∀ {x : Str}, txt (.str x) 0 40 = true → Sz 402 0 (.str x) := fun h => sz_txt (b := 40) h
  have hy : ∀ {x : Str}, txt (.str x) 1 20 = true → Sz 202 0 (.str x) := fun h => sz_txt (b := 20) h
  have f5 : Sz 52 0 (.str "fixed") := ⟨by decide, by decide, by decide⟩
  have e5 : Sz 52 0 (.str "entry") := ⟨by decide, by decide, by decide⟩
  have o3 : Sz 32 0 (.str "out") := ⟨by decide, by decide, by decide⟩
  have two : ∀ {a b : PyData}, Sz 52 0 a → Sz 1010 0 b → Sz 1500 1 (.tuple [a, b]) := fun ha hb =>
    sz_tup' (k := 0) (by rw [okVAll, okVAll, okVAll, ha.ok, hb.ok]; rfl) (by rw [wVAll, wVAll, wVAll]; have := ha.w; have := hb.w; omega) (by rw [PyData.depthAll, PyData.depthAll, PyData.depthAll]; have := ha.dp; have := hb.dp; omega)
  have tri : ∀ {a b d : PyData}, Sz 52 0 a → Sz 1010 0 b → Sz 402 0 d → Sz 1500 1 (.tuple [a, b, d]) := fun ha hb hd =>
    sz_tup' (k := 0) (by rw [okVAll, okVAll, okVAll, okVAll, ha.ok, hb.ok, hd.ok]; rfl) (by rw [wVAll, wVAll, wVAll, wVAll]; have := ha.w; have := hb.w; have := hd.w; omega) (by rw [PyData.depthAll, PyData.depthAll, PyData.depthAll, PyData.depthAll]; have := ha.dp; have := hb.dp; have := hd.dp; omega)
  cases l with
  | fix1 n => exact two f5 (hi n ok)
  | ent1 n => exact two e5 (hi n (by have : n < r := ok; omega))
  | fix2 n x => exact tri f5 (hi n ok.1) (hx ok.2)
  | ent2 n x => exact tri e5 (hi n (by have := ok.1; omega)) (hx ok.2)
  | out y x => exact tri (o3.mono (by omega) (by omega)) ((hy ok.1).mono (by omega) (by omega)) (hx ok.2)
theorem sz_b3 {r b : Nat} {ls : List Ln} (hr : r ≤ 9999) (hb : b ≤ 9999) (hl : ls.length ≤ 16) (ok : ∀ l ∈ ls, ∃ q, q ≤ 9999 ∧ l.Ok q) : Sz 26100 3 (.tuple [.int (r : Nat), .int (b : Nat), .tuple (ls.map Ln.dat)]) := by
  have hi : ∀ n : Nat, n ≤ 9999 → Sz 1010 0 (.int (n : Nat)) := fun n h => sz_int (Nat.lt_of_le_of_lt (show n ≤ 9999 from h) (by decide +kernel))
  have each : ∀ d ∈ ls.map Ln.dat, Sz 1500 1 d := fun d hd => by
    obtain ⟨l, hl, rfl⟩ := List.mem_map.mp hd
    obtain ⟨q, hq, o⟩ := ok l hl
    exact sz_ln hq o
  have z : Sz 24040 2 (.tuple (ls.map Ln.dat)) := by
    refine sz_tup' (k := 1) (okVAll_of fun d hd => (each d hd).ok) ?_ (depthAll_le fun d hd => (each d hd).dp)
    have : ∀ l : List PyData, (∀ d ∈ l, wV d ≤ 1500) → wVAll l ≤ 1502 * l.length := by
      intro l
      induction l with
      | nil => intro _; rw [wVAll]; omega
      | cons x l ih =>
        intro hh
        have := ih fun d hd => hh d (List.mem_cons_of_mem _ hd)
        have := hh x (List.mem_cons_self ..)
        rw [wVAll, List.length_cons]; omega
    have := this (ls.map Ln.dat) fun d hd => (each d hd).w
    rw [List.length_map] at this
    omega
  have h1 := hi r hr
  have h2 := hi b hb
  refine sz_tup' (k := 2) (by rw [okVAll, okVAll, okVAll, okVAll, h1.ok, h2.ok, z.ok]; rfl) (by rw [wVAll, wVAll, wVAll, wVAll]; have := h1.w; have := h2.w; have := z.w; omega) ?_
  rw [PyData.depthAll, PyData.depthAll, PyData.depthAll, PyData.depthAll]
  have := h1.dp; have := h2.dp; have := z.dp; omega
theorem noLst_lns : ∀ ls : List Ln, noLstAll (ls.map Ln.dat) = true
  | [] => rfl
  | l :: ls => by
    show (noLst l.dat && noLstAll (ls.map Ln.dat)) = true
    rw [noLst_lns ls]
    cases l <;> rfl
theorem sz_blk {b : Blk} (ok : b.Ok) : Sz 26100 3 b.dat := sz_b3 ok.req_ (by have := ok.req_; have := ok.base_; omega) ok.len_ fun l hl => ⟨_, ok.req_, ok.lns_ l hl⟩
/-- what two reads of the same entries give -/
theorem dle_res {o : Option (List Fd)} (n : Nat) (h : ∀ fs, o = some fs → fs.length ≤ 16) : DLe (n + 2) (resD o) := by
  cases o with
  | none => exact True.intro
  | some fs =>
    have := h fs rfl
    refine ⟨by rw [List.length_map]; omega, fun d hd => ?_⟩
    obtain ⟨f, _, rfl⟩ := List.mem_map.mp hd
    refine ⟨by show 2 ≤ 100000; omega, fun e he => ?_⟩
    simp only [List.mem_cons, List.not_mem_nil, or_false] at he
    rcases he with rfl | rfl <;> (cases n <;> simp [DLe])
/-- pairs made of a dict, from its end: all as they were -/
theorem prs_paired {K : PySem.W.Frag} {H : Hp} : ∀ {ps : List Addr} {kvs : List (Key × V)}, Paired (fun p (kv : Key × V) => SqT K H p [kV kv.1, kv.2]) ps kvs → ps.length = kvs.length
  | _, _, .nil => rfl
  | _, _, .cons _ t => by rw [List.length_cons, List.length_cons, prs_paired t]
end Fld
namespace Fld
open PySem PySem.Spec PyProof.Rows L2
theorem val_mem {κ : Type} [DecidableEq κ] : ∀ {kvs : List (κ × V)} {kv : κ × V}, (kvs.map (·.1)).Nodup → kv ∈ kvs → valV kvs kv.1 = some kv.2
  | x :: kvs, kv, nd, h => by
    rw [List.map_cons, List.nodup_cons] at nd
    rcases List.mem_cons.mp h with rfl | h
    · exact valV_pos rfl
    · rw [valV_neg fun z => nd.1 (List.mem_map.mpr ⟨kv, h, z.symm⟩)]
      exact val_mem nd.2 h
end Fld
namespace Fld
open PySem PySem.Spec PyProof.Rows L2
/-- a start of a list: of no items, or of two -/
theorem cut_two (xs : List V) (b : Bool) : cutV xs none (some (2 * (if b = true then 1 else 0))) = xs.take (2 * b.toNat) := by
  cases b
  · exact cut_to xs 0
  · exact cut_to xs 2
end Fld
/-! the table: its mirror, its object, what its calls promise -/
namespace Fld
open PySem PySem.Spec PyProof.Rows L2
def fsz (f : Fd) : Nat := f.1.length + f.2.length + 4
def sumE (es : Ent) : Nat := (es.map fun e => fsz e.2).sum
def keepE (b m : Nat) : Ent → Ent
  | [] => []
  | e :: es => if m + sumE (e :: es) ≤ b then e :: es else keepE b m es
def goneE (b m : Nat) : Ent → Ent
  | [] => []
  | e :: es => if m + sumE (e :: es) ≤ b then [] else e :: goneE b m es
theorem sumE_cons (e : Nat × Fd) (es : Ent) : sumE (e :: es) = fsz e.2 + sumE es := by unfold sumE; rw [List.map_cons, List.sum_cons]
theorem sumE_app (es fs : Ent) : sumE (es ++ fs) = sumE es + sumE fs := by
  induction es with
  | nil => rw [List.nil_append]; show _ = 0 + _; omega
  | cons e es ih => rw [List.cons_append, sumE_cons, sumE_cons, ih]; omega
theorem gone_keep (b m : Nat) : ∀ es : Ent, goneE b m es ++ keepE b m es = es
  | [] => rfl
  | e :: es => by
    unfold goneE keepE
    by_cases c : m + sumE (e :: es) ≤ b
    · rw [if_pos c, if_pos c]; rfl
    · rw [if_neg c, if_neg c, List.cons_append, gone_keep b m es]
theorem gone_take {b m : Nat} : ∀ (es : Ent) (i : Nat), i ≤ es.length → (∀ j, j < i → ¬ m + sumE (es.drop j) ≤ b) → (i = es.length ∨ m + sumE (es.drop i) ≤ b) → goneE b m es = es.take i ∧ keepE b m es = es.drop i
  | [], i, h, _, _ => by
    have : i = 0 := by simpa using h
    subst this; exact ⟨rfl, rfl⟩
  | e :: es, 0, _, _, h => by
    rcases h with h | h
    · cases h
    · have h' : m + sumE (e :: es) ≤ b := h
      unfold goneE keepE
      rw [if_pos h', if_pos h']
      exact ⟨rfl, rfl⟩
  | e :: es, i + 1, hl, hj, h => by
    have h0 : ¬ m + sumE (e :: es) ≤ b := hj 0 (by omega)
    obtain ⟨h1, h2⟩ := gone_take es i (by simpa using hl) (fun j hj' => hj (j + 1) (by omega)) (by
      rcases h with h | h
      · exact .inl (by simpa using h)
      · exact .inr h)
    unfold goneE keepE
    rw [if_neg h0, if_neg h0, h1, h2]
    exact ⟨rfl, rfl⟩
theorem keep_sum {b m : Nat} (hm : m ≤ b) : ∀ es : Ent, m + sumE (keepE b m es) ≤ b
  | [] => by show m + 0 ≤ b; omega
  | e :: es => by
    unfold keepE
    split
    · assumption
    · exact keep_sum hm es
theorem keep_sub (b m : Nat) (es : Ent) : (keepE b m es).Sublist es := by
  have h := gone_keep b m es
  have := List.sublist_append_right (goneE b m es) (keepE b m es)
  rwa [h] at this
structure Tb where
  bound : Nat
  made : Nat
  es : Ent
structure TbOk (r : Nat) (t : Tb) : Prop where
  rm : r ≤ 120
  bd : t.bound ≤ r
  sum : sumE t.es ≤ t.bound
  asc : (t.es.map (·.1)).Pairwise (· < ·)
  lt : ∀ e ∈ t.es, e.1 < t.made
  mad : t.made ≤ 9999
  fd : ∀ e ∈ t.es, FdOk e.2
theorem fsz_ge {f : Fd} (h : FdOk f) : 5 ≤ fsz f ∧ fsz f ≤ 64 := by
  have h1 : (decide ((1 : Int) ≤ (f.1.length : Int)) && decide ((f.1.length : Int) ≤ 20) && f.1.cps.toList.all isChar) = true := h.n
  have h2 := txt_len h.v
  simp only [Bool.and_eq_true, decide_eq_true_eq] at h1
  unfold fsz
  omega
theorem sum_len : ∀ {es : Ent}, (∀ e ∈ es, FdOk e.2) → 5 * es.length ≤ sumE es
  | [], _ => Nat.le_refl _
  | e :: es, h => by
    have := sum_len (es := es) fun x hx => h x (List.mem_cons_of_mem _ hx)
    have := (fsz_ge (h e (List.mem_cons_self ..))).1
    rw [sumE_cons, List.length_cons]; omega
theorem TbOk.len {r : Nat} {t : Tb} (h : TbOk r t) : t.es.length ≤ 24 := by
  have := sum_len h.fd
  have := h.sum
  have := h.bd
  have := h.rm
  omega
theorem TbOk.nd {r : Nat} {t : Tb} (h : TbOk r t) : (t.es.map (·.1)).Nodup := List.Pairwise.imp (fun h => Nat.ne_of_lt h) h.asc
def lookI (es : Ent) (z : Int) : Option Fd := if z < 0 then none else lookE es z.toNat
def insF (F : List Fd) (t : Tb) : Ins → Option Fd
  | .new y x => some (y, x)
  | .again n => lookI t.es ((t.made : Int) - 1 - (n : Int))
  | .fixed n x => (F[n]?).map fun f => (f.1, x)
  | .entry n x => (lookI t.es ((t.made : Int) - 1 - (n : Int))).map fun f => (f.1, x)
  | .limit _ => none
def putT (t : Tb) (f : Fd) : Tb := ⟨t.bound, t.made + 1, keepE t.bound (fsz f) t.es ++ [(t.made, f)]⟩
def roomT (t : Tb) (f : Fd) : Bool := decide (fsz f ≤ t.bound) && decide (t.made < 9999)
def stepT (F : List Fd) (r : Nat) (t : Tb) : Ins → Option Tb
  | .limit n => if n ≤ r then some ⟨n, t.made, keepE n 0 t.es⟩ else none
  | i => match insF F t i with
    | none => none
    | some f => if roomT t f = true then some (putT t f) else none
theorem look_mem2 {es : Ent} {z : Int} {f : Fd} (h : lookI es z = some f) : ∃ n, (n, f) ∈ es := by
  unfold lookI at h
  split at h
  · cases h
  · exact ⟨_, look_mem h⟩
theorem insF_ok {F : List Fd} {t : Tb} {i : Ins} {f : Fd} {r : Nat} (hF : ∀ f ∈ F, FdOk f) (h : TbOk r t) (hi : i.Ok) (e : insF F t i = some f) : FdOk f := by
  cases i with
  | new y x => cases e; exact ⟨hi.1, hi.2⟩
  | limit n => cases e
  | again n => obtain ⟨k, hk⟩ := look_mem2 e; exact h.fd _ hk
  | fixed n x =>
    obtain ⟨g, hg, rfl⟩ := Option.map_eq_some_iff.mp e
    exact ⟨(hF g (List.mem_of_getElem? hg)).n, hi.2⟩
  | entry n x =>
    obtain ⟨g, hg, rfl⟩ := Option.map_eq_some_iff.mp e
    obtain ⟨k, hk⟩ := look_mem2 hg
    exact ⟨(h.fd _ hk).n, hi.2⟩
theorem keep_ok {r b m : Nat} {t : Tb} (h : TbOk r t) : ((keepE b m t.es).map (·.1)).Pairwise (· < ·) ∧ (∀ e ∈ keepE b m t.es, e.1 < t.made) ∧ ∀ e ∈ keepE b m t.es, FdOk e.2 :=
  ⟨List.Pairwise.sublist (List.Sublist.map _ (keep_sub b m t.es)) h.asc, fun e he => h.lt e ((keep_sub b m t.es).subset he), fun e he => h.fd e ((keep_sub b m t.es).subset he)⟩
theorem TbOk.limit {r n : Nat} {t : Tb} (h : TbOk r t) (hn : n ≤ r) : TbOk r ⟨n, t.made, keepE n 0 t.es⟩ := by
  obtain ⟨h1, h2, h3⟩ := keep_ok (b := n) (m := 0) h
  exact ⟨h.rm, hn, by have := keep_sum (b := n) (m := 0) (by omega) t.es; show sumE (keepE n 0 t.es) ≤ n; omega, h1, h2, h.mad, h3⟩
theorem TbOk.put {r : Nat} {t : Tb} {f : Fd} (h : TbOk r t) (hf : FdOk f) (hr : roomT t f = true) : TbOk r (putT t f) := by
  obtain ⟨h1, h2, h3⟩ := keep_ok (b := t.bound) (m := fsz f) h
  unfold roomT at hr
  rw [Bool.and_eq_true, decide_eq_true_eq, decide_eq_true_eq] at hr
  refine ⟨h.rm, h.bd, ?_, ?_, ?_, by show t.made + 1 ≤ 9999; omega, ?_⟩
  · show sumE (keepE t.bound (fsz f) t.es ++ [(t.made, f)]) ≤ t.bound
    rw [sumE_app, sumE_cons]
    have := keep_sum hr.1 t.es
    show sumE (keepE t.bound (fsz f) t.es) + (fsz f + 0) ≤ t.bound
    omega
  · show ((keepE t.bound (fsz f) t.es ++ [(t.made, f)]).map (·.1)).Pairwise (· < ·)
    rw [List.map_append, List.pairwise_append]
    refine ⟨h1, by simp, ?_⟩
    intro a ha b hb
    obtain ⟨e, he, rfl⟩ := List.mem_map.mp ha
    have : b = t.made := by simpa using hb
    rw [this]; exact h2 e he
  · intro e he
    rcases List.mem_append.mp he with z | z
    · have := h2 e z; show e.1 < t.made + 1; omega
    · rw [List.mem_singleton.mp z]; show t.made < t.made + 1; omega
  · intro e he
    rcases List.mem_append.mp he with z | z
    · exact h3 e z
    · rw [List.mem_singleton.mp z]; exact hf
theorem TbOk.step {F : List Fd} {r : Nat} {t t' : Tb} {i : Ins} (hF : ∀ f ∈ F, FdOk f) (h : TbOk r t) (hi : i.Ok) (e : stepT F r t i = some t') : TbOk r t' := by
  have go : ∀ (o : Option Fd), (∀ f, o = some f → FdOk f) → (match o with | none => none | some f => if roomT t f = true then some (putT t f) else none) = some t' → TbOk r t' := by
    intro o ho e
    cases o with
    | none => cases e
    | some f =>
      simp only at e
      split at e
      · cases e; exact h.put (ho f rfl) (by assumption)
      · cases e
  cases i with
  | limit n =>
    unfold stepT at e
    simp only at e
    split at e
    · cases e; exact h.limit (by assumption)
    · cases e
  | new y x => exact go _ (fun f e2 => insF_ok hF h hi e2) e
  | again n => exact go _ (fun f e2 => insF_ok hF h hi e2) e
  | fixed n x => exact go _ (fun f e2 => insF_ok hF h hi e2) e
  | entry n x => exact go _ (fun f e2 => insF_ok hF h hi e2) e
/-- all instructions, or the number of the first that cannot be carried out -/
def runT (F : List Fd) (r : Nat) (t : Tb) (k : Nat) : List Ins → Except Nat Tb
  | [] => .ok t
  | i :: is => match stepT F r t i with
    | none => .error k
    | some t' => runT F r t' (k + 1) is
def tb0 (r : Nat) : Tb := ⟨r, 0, []⟩
theorem tb0_ok {r : Nat} (h : r ≤ 120) : TbOk r (tb0 r) := ⟨h, Nat.le_refl _, Nat.zero_le _, .nil, fun _ h => (nomatch h), by show 0 ≤ 9999; omega, fun _ h => (nomatch h)⟩
/-! ### lists of a dict -/
theorem dropE_head {e : Nat × Fd} {es : Ent} (h : ((e :: es).map (·.1)).Pairwise (· < ·)) : dropE (e :: es) e.1 = es := by
  rw [List.map_cons, List.pairwise_cons] at h
  unfold dropE
  rw [List.filter_cons, if_neg (by simp), List.filter_eq_self.mpr]
  intro x hx
  have := h.1 x.1 (List.mem_map.mpr ⟨x, hx, rfl⟩)
  exact decide_eq_true (by omega)
theorem putE_new {n : Nat} {f : Fd} {es : Ent} (h : ∀ e ∈ es, e.1 < n) : putE es n f = es ++ [(n, f)] := by
  unfold putE
  rw [if_neg]
  intro z
  obtain ⟨e, he, e2⟩ := List.any_eq_true.mp z
  have := h e he
  have := of_decide_eq_true e2
  omega
/-- these objects may have changed -/
def ButS (S : List Addr) (H H' : Hp) : Prop := ∀ b o, b ∉ S → H b = some o → H' b = some o
theorem ButS.of {S : List Addr} {H H' : Hp} (s : Same H H') : ButS S H H' := fun b o _ e => s b o e
theorem ButS.trans {S : List Addr} {H H1 H2 : Hp} (a : ButS S H H1) (b : ButS S H1 H2) : ButS S H H2 := fun c o n e => b c o n (a c o n e)
theorem ButS.mono {S S' : List Addr} {H H1 : Hp} (a : ButS S H H1) (h : ∀ b ∈ S, b ∈ S') : ButS S' H H1 := fun c o n e => a c o (fun z => n (h c z)) e
theorem ButS.set {S : List Addr} {H : Hp} {q : Addr} {o : HO} (h : q ∈ S) : ButS S H (upd H q o) := fun b u n e => by
  have nb : b ≠ q := fun z => n (by rw [z]; exact h)
  rw [upd_ne nb]; exact e
theorem ButS.ts {S : List Addr} {H H' : Hp} (b : ButS S H H') (h : ∀ a ∈ S, ∀ o, H a = some o → ¬ IsTupO o) : TS H H' := fun a u t e => by
  by_cases z : a ∈ S
  · exact absurd t (h a z u e)
  · exact b a u z e
/-- the table at a, its entries at D -/
def tfs (sv : V) (t : Tb) (D : Addr) : List (Str × V) := [("setting", sv), ("bound", .int (t.bound : Nat)), ("made", .int (t.made : Nat)), ("kept", .ref D)]
structure TblV (K : PySem.W.Frag) (C : Addr) (H : Hp) (a D : Addr) (sv : V) (F : List Fd) (r w : Nat) (t : Tb) : Prop where
  ob : ∃ dx, H a = some (.ins C dx (tfs sv t D))
  en : EntV K H D t.es
  st : SetV K H sv F r w
theorem TblV.ne {K : PySem.W.Frag} {C : Addr} {H : Hp} {a D : Addr} {sv : V} {F : List Fd} {r w : Nat} {t : Tb} (h : TblV K C H a D sv F r w t) : D ≠ a := by
  obtain ⟨dx, e⟩ := h.ob
  obtain ⟨kvs, e2, _⟩ := h.en
  intro z
  rw [z, e] at e2; cases e2
theorem TblV.same {K : PySem.W.Frag} {C : Addr} {H H' : Hp} {a D : Addr} {sv : V} {F : List Fd} {r w : Nat} {t : Tb} (h : TblV K C H a D sv F r w t) (s : Same H H') : TblV K C H' a D sv F r w t := by
  obtain ⟨dx, e⟩ := h.ob
  exact ⟨⟨dx, s _ _ e⟩, h.en.same s, h.st.ts (.of s)⟩
theorem TblV.nt {K : PySem.W.Frag} {C : Addr} {H : Hp} {a D : Addr} {sv : V} {F : List Fd} {r w : Nat} {t : Tb} (h : TblV K C H a D sv F r w t) : ∀ b ∈ [a, D], ∀ o, H b = some o → ¬ IsTupO o := by
  obtain ⟨dx, e⟩ := h.ob
  obtain ⟨kvs, e2, _⟩ := h.en
  intro b hb o ho
  simp only [List.mem_cons, List.not_mem_nil, or_false] at hb
  rcases hb with rfl | rfl
  · rw [e] at ho; cases ho; exact nt_ins
  · rw [e2] at ho; cases ho; exact nt_dK
def sp_entry_size (K : PySem.W.Frag) : Sp := fun vs H Q _ => ∃ (v : V) (f : Fd), vs = [v] ∧ FdV K H v f ∧ FdOk f ∧ Q (.int (fsz f : Nat)) H
def sp_Table_init (K : PySem.W.Frag) : Sp := fun vs H Q _ => ∃ (a C dx : Addr) (sv : V) (F : List Fd) (r w : Nat), vs = [.ref a, sv] ∧ H a = some (.ins C dx []) ∧ Cls K C ∧ NoAttr K C "setting" ∧ NoAttr K C "bound" ∧ NoAttr K C "made" ∧ NoAttr K C "kept" ∧ SetV K H sv F r w ∧
  ∀ D H', D ≠ a → H D = none → (∀ b, b ≠ a → b ≠ D → H' b = H b) → H' a = some (.ins C dx (tfs sv (tb0 r) D)) → H' D = some (.dK []) → Q .non H'
def sp_has_room (K : PySem.W.Frag) (C : Addr) : Sp := fun vs H Q _ => ∃ (a D : Addr) (sv v : V) (F : List Fd) (r w : Nat) (t : Tb) (f : Fd), vs = [.ref a, v] ∧ TblV K C H a D sv F r w t ∧ FdV K H v f ∧ FdOk f ∧ Q (.bl (roomT t f)) H
def eInts (es : Ent) : List V := es.map fun e => V.int ((e.1 : Nat) : Int)
def sp_leaving (K : PySem.W.Frag) (C : Addr) : Sp := fun vs H Q _ => ∃ (a D : Addr) (sv : V) (F : List Fd) (r w b m : Nat) (t : Tb), vs = [.ref a, .int b, .int m] ∧ TblV K C H a D sv F r w t ∧ TbOk r t ∧ m ≤ 1000 ∧ b ≤ 1000 ∧
  ∀ L H', H L = none → Same H H' → H' L = some (.lst (eInts (goneE b m t.es))) → Q (.ref L) H'
def sp_drop (K : PySem.W.Frag) (C : Addr) : Sp := fun vs H Q _ => ∃ (a D L : Addr) (sv : V) (F : List Fd) (r w b m : Nat) (t : Tb), vs = [.ref a, .ref L] ∧ TblV K C H a D sv F r w t ∧ TbOk r t ∧ H L = some (.lst (eInts (goneE b m t.es))) ∧
  ∀ H', ButS [D] H H' → EntV K H' D (keepE b m t.es) → Q .non H'
def sp_set_bound (K : PySem.W.Frag) (C : Addr) : Sp := fun vs H Q _ => ∃ (a D : Addr) (sv : V) (F : List Fd) (r w n : Nat) (t : Tb), vs = [.ref a, .int n] ∧ TblV K C H a D sv F r w t ∧ TbOk r t ∧
  (¬ n ≤ r → Q (.bl false) H) ∧ (n ≤ r → ∀ H', ButS [a, D] H H' → TblV K C H' a D sv F r w ⟨n, t.made, keepE n 0 t.es⟩ → Q (.bl true) H')
def sp_inserted (K : PySem.W.Frag) (C : Addr) : Sp := fun vs H Q _ => ∃ (a D : Addr) (sv v : V) (F : List Fd) (r w : Nat) (t : Tb) (i : Ins), vs = [.ref a, v] ∧ TblV K C H a D sv F r w t ∧ InsV K H v i ∧ (∀ n, i ≠ .limit n) ∧ F.length ≤ 12 ∧
  ∀ u H', Same H H' → OFd K H' u (insF F t i) → Q u H'
def sp_carry_out (K : PySem.W.Frag) (C : Addr) : Sp := fun vs H Q _ => ∃ (a D : Addr) (sv v : V) (F : List Fd) (r w : Nat) (t : Tb) (i : Ins), vs = [.ref a, v] ∧ TblV K C H a D sv F r w t ∧ TbOk r t ∧ SetOk F r w ∧ InsV K H v i ∧ i.Ok ∧
  (stepT F r t i = none → ∀ H', Same H H' → Q (.bl false) H') ∧ ∀ t', stepT F r t i = some t' → ∀ H', ButS [a, D] H H' → TblV K C H' a D sv F r w t' → Q (.bl true) H'
def sp_referredZ (K : PySem.W.Frag) : Sp := fun vs H Q _ => ∃ (t D : Addr) (F : List Fd) (es : Ent) (z : Int), vs = [.ref t, .ref D, .str "entry", .int z] ∧ TabV K H t D F es ∧ ∀ v, OFd K H v (lookI es z) → Q v H
def sp_said_fieldZ (K : PySem.W.Frag) : Sp := fun vs H Q _ => ∃ (t D u : Addr) (F : List Fd) (es : Ent) (z : Int) (x : Str), vs = [.ref t, .ref D, .ref u] ∧ TabV K H t D F es ∧ SqT K H u [.str "entry", .int z, .str x] ∧
  ∀ r H', Same H H' → OFd K H' r ((lookI es z).map fun f => (f.1, x)) → Q r H'
theorem look_int {K : PySem.W.Frag} {H : Hp} {z : Int} {kvs : List (Key × V)} {es : Ent} (h : Paired (PrV K H) kvs es) : (valV kvs (Sum.inl z) = none ∧ lookI es z = none) ∨ ∃ v f, valV kvs (Sum.inl z) = some v ∧ lookI es z = some f ∧ FdV K H v f := by
  unfold lookI
  by_cases c : z < 0
  · refine .inl ⟨?_, by rw [if_pos c]⟩
    induction h with
    | nil => rfl
    | cons h t ih =>
      rw [valV_neg (by rw [h.1]; intro e; have := Sum.inl.inj e; omega)]
      exact ih
  · rw [if_neg c]
    have e : (Sum.inl z : Key) = nkey z.toNat := by unfold nkey; congr 1; omega
    rw [e]
    exact look_get h
end Fld
namespace Fld
open PySem PySem.Spec PyProof.Rows L2
def fd0 : Nat × Fd := ((0 : Nat), (("" : Str), ("" : Str)))
theorem sum_ints : ∀ es : Ent, (es.map fun e => ((fsz e.2 : Nat) : Int)).sum = ((sumE es : Nat) : Int)
  | [] => rfl
  | e :: es => by rw [List.map_cons, List.sum_cons, sum_ints es, sumE_cons]; omega
theorem sum_range (es : Ent) : ((List.range es.length).map fun i => ((fsz (es.getD i fd0).2 : Nat) : Int)).sum = ((sumE es : Nat) : Int) := by
  rw [range_map es (fun e => ((fsz e.2 : Nat) : Int)) fd0, sum_ints]
theorem drop_at {es : Ent} {i : Nat} {e : Nat × Fd} (h : es[i]? = some e) : es.drop i = e :: es.drop (i + 1) := by
  obtain ⟨hlt, he⟩ := List.getElem?_eq_some_iff.mp h
  rw [List.drop_eq_getElem_cons hlt, he]
/-- a dict locked and set free again -/
theorem unlock {H H' : Hp} {D : Addr} {od : Obj} {u : HO} (hD : H D = some u) (s : Same (upd H D (.frz od u)) H') : Same H (upd H' D u) := fun b o e => by
  by_cases z : b = D
  · subst z; rw [upd_same]; rw [hD] at e; exact e
  · rw [upd_ne z]; exact s b o (by rw [upd_ne z]; exact e)
theorem FnOk_or {P : Program} {w : World} {K : PySem.W.Frag} {mg : Str → Option Value} {base : Heap} {CX : CXT} {k : Nat} {f : Addr} {fd : FuncData} {ps : List Str} {s1 s2 : Sp} (G1 : FnOk P w K mg base CX k f fd ps s1) (G2 : FnOk P w K mg base CX k f fd ps s2) :
    FnOk P w K mg base CX k f fd ps (fun vs H Q E => s1 vs H Q E ∨ s2 vs H Q E) :=
  ⟨fun vs H Q E h => h.elim (G1.1 vs H Q E) (G2.1 vs H Q E), fun a b c d e f g h i j k l m z => z.elim (G1.2 a b c d e f g h i j k l m) (G2.2 a b c d e f g h i j k l m)⟩
end Fld
namespace Fld
open PySem PySem.Spec PyProof.Rows L2
def kd : Ins → Str
  | .again _ => "again"
  | .limit _ => "limit"
  | .fixed _ _ => "fixed"
  | .entry _ _ => "entry"
  | .new _ _ => "new"
theorem kd_at (i : Ins) : atI i.vs 0 = some (.str (kd i)) := by cases i <;> rfl
theorem kd_no {i : Ins} (h : ∀ n, i ≠ .limit n) : decide (V.str (kd i) = V.str "limit") = false := by
  cases i with
  | limit n => exact absurd rfl (h n)
  | again n => show decide (V.str ("again" : Str) = V.str "limit") = false; decide
  | fixed n x => show decide (V.str ("fixed" : Str) = V.str "limit") = false; decide
  | entry n x => show decide (V.str ("entry" : Str) = V.str "limit") = false; decide
  | new y x => show decide (V.str ("new" : Str) = V.str "limit") = false; decide
theorem step_no {F : List Fd} {r : Nat} {t : Tb} {i : Ins} (h : ∀ n, i ≠ .limit n) : stepT F r t i = match insF F t i with | none => none | some f => if roomT t f = true then some (putT t f) else none := by
  cases i with
  | limit n => exact absurd rfl (h n)
  | again n => rfl
  | fixed n x => rfl
  | entry n x => rfl
  | new y x => rfl
theorem InsV.ts {K : PySem.W.Frag} {H H' : Hp} {v : V} {i : Ins} (h : InsV K H v i) (t : TS H H') : InsV K H' v i := let ⟨a, e, s⟩ := h; ⟨a, e, t.tup s⟩
abbrev InssV (K : PySem.W.Frag) (H : Hp) (xs : List V) (is : List Ins) : Prop := Paired (InsV K H) xs is
theorem InssV.ts {K : PySem.W.Frag} {H H' : Hp} {xs : List V} {is : List Ins} (h : InssV K H xs is) (t : TS H H') : InssV K H' xs is := pmap (fun _ _ z => z.ts t) h
theorem runT_ok {F : List Fd} {r : Nat} (hF : ∀ f ∈ F, FdOk f) : ∀ {is : List Ins} {t t' : Tb} {k : Nat}, TbOk r t → (∀ i ∈ is, i.Ok) → runT F r t k is = .ok t' → TbOk r t'
  | [], t, t', k, h, _, e => by cases e; exact h
  | i :: is, t, t', k, h, hi, e => by
    unfold runT at e
    cases c : stepT F r t i with
    | none => rw [c] at e; cases e
    | some u =>
      rw [c] at e
      exact runT_ok hF (h.step hF (hi i (List.mem_cons_self ..)) c) (fun j hj => hi j (List.mem_cons_of_mem _ hj)) e
/-- run_table over a setting and instructions -/
def RunRes (K : PySem.W.Frag) (N : Addr) (H : Hp) (Q : VK) (E : XK) : Except Nat Tb → Prop
  | .ok t => ∀ D p H', H D = none → H p = none → Same H H' → H' p = some (.tup [.int (t.made : Nat), .ref D]) → EntV K H' D t.es → Q (.ref p) H'
  | .error k => ∀ d H', Same H H' → H' d = some (.xd [("number", .int (k : Nat))]) → E (.ref N) (some d) H'
def sp_run_table (K : PySem.W.Frag) (N : Addr) : Sp := fun vs H Q E => ∃ (sv : V) (L : Addr) (F : List Fd) (r w : Nat) (xs : List V) (is : List Ins), vs = [sv, .ref L] ∧ SetV K H sv F r w ∧ SetOk F r w ∧ SqL K H L xs ∧ InssV K H xs is ∧ (∀ i ∈ is, i.Ok) ∧ is.length ≤ 1000 ∧
  RunRes K N H Q E (runT F r (tb0 r) 0 is)
end Fld
/-! the law's own table: states, what its draws promise -/
namespace Fld
open PySem PySem.Spec PyProof.Rows L2
/-- all tuples and dicts stand -/
def KS (H H' : Hp) : Prop := ∀ a u, (IsTupO u ∨ ∃ kvs, u = .dK kvs) → H a = some u → H' a = some u
theorem KS.refl (H : Hp) : KS H H := fun _ _ _ e => e
theorem KS.trans {H H1 H2 : Hp} (a : KS H H1) (b : KS H1 H2) : KS H H2 := fun c u t e => b c u t (a c u t e)
theorem KS.of {H H1 : Hp} (s : Same H H1) : KS H H1 := fun c u _ e => s c u e
theorem KS.ts {H H1 : Hp} (k : KS H H1) : TS H H1 := fun a u t e => k a u (.inl t) e
theorem KS.but {p : Addr} {H H' : Hp} {xs : List V} (b : But p H H') (h : H p = some (.lst xs)) : KS H H' := fun a u t e => by
  by_cases z : a = p
  · subst z; rw [h] at e; cases e
    rcases t with t | ⟨_, t⟩
    · exact absurd t nt_lst
    · cases t
  · exact b a u z e
theorem KS.drew {p c : Addr} {H H' : Hp} {n m : Nat} (hp : Pen H p c n) (d : Drew p c H H' m) : KS H H' := by
  obtain ⟨⟨xs, e⟩, _⟩ := hp.some
  exact KS.but d.but e
theorem KS.at {H : Hp} {q : Addr} {xs : List V} {o : HO} (h : H q = some (.lst xs)) : KS H (upd H q o) := KS.but But.set h
theorem EntV.ks {K : PySem.W.Frag} {H H' : Hp} {D : Addr} {es : Ent} (h : EntV K H D es) (k : KS H H') : EntV K H' D es := by
  obtain ⟨kvs, e, p⟩ := h
  exact ⟨kvs, k _ _ (.inr ⟨_, rfl⟩) e, pmap (fun _ _ z => z.ts k.ts) p⟩
/-- a state: entries, how many, the bound -/
def StV (K : PySem.W.Frag) (H : Hp) (v : V) (t : Tb) : Prop := ∃ a D, v = .ref a ∧ SqT K H a [.ref D, .int (t.made : Nat), .int (t.bound : Nat)] ∧ EntV K H D t.es
theorem StV.ks {K : PySem.W.Frag} {H H' : Hp} {v : V} {t : Tb} (h : StV K H v t) (k : KS H H') : StV K H' v t := let ⟨a, D, e, s, n⟩ := h; ⟨a, D, e, k.ts.tup s, n.ks k⟩
theorem StV.same {K : PySem.W.Frag} {H H' : Hp} {v : V} {t : Tb} (h : StV K H v t) (s : Same H H') : StV K H' v t := h.ks (.of s)
def sp_law_size (K : PySem.W.Frag) : Sp := fun vs H Q _ => ∃ (v : V) (f : Fd), vs = [v] ∧ FdV K H v f ∧ FdOk f ∧ Q (.int (fsz f : Nat)) H
/-- entries whose numbers rise -/
structure Asc (es : Ent) : Prop where
  asc : (es.map (·.1)).Pairwise (· < ·)
  fd : ∀ e ∈ es, FdOk e.2
  len : es.length ≤ 60
theorem Asc.nd {es : Ent} (h : Asc es) : (es.map (·.1)).Nodup := List.Pairwise.imp (fun h => Nat.ne_of_lt h) h.asc
theorem TbOk.ascE {r : Nat} {t : Tb} (h : TbOk r t) : Asc t.es := ⟨h.asc, h.fd, by have := h.len; omega⟩
def sp_without_old (K : PySem.W.Frag) : Sp := fun vs H Q _ => ∃ (D : Addr) (es : Ent) (b m : Nat), vs = [.ref D, .int b, .int m] ∧ EntV K H D es ∧ Asc es ∧ ∀ D' H', H D' = none → Same H H' → EntV K H' D' (keepE b m es) → Q (.ref D') H'
def CarRes (K : PySem.W.Frag) (H : Hp) (Q : VK) : Option Tb → Prop
  | none => ∀ H', Same H H' → Q .non H'
  | some t => ∀ v H', Same H H' → StV K H' v t → Q v H'
def sp_law_carried (K : PySem.W.Frag) : Sp := fun vs H Q _ => ∃ (sv st v : V) (F : List Fd) (r w : Nat) (t : Tb) (i : Ins), vs = [sv, st, v] ∧ SetV K H sv F r w ∧ SetOk F r w ∧ StV K H st t ∧ TbOk r t ∧ t.made < 9999 ∧ InsV K H v i ∧ i.Ok ∧ CarRes K H Q (stepT F r t i)
def sp_draw_step (K : PySem.W.Frag) : Sp := fun vs H Q _ => ∃ (p c : Addr) (n : Nat) (sv st : V) (F : List Fd) (r w : Nat) (t : Tb), vs = [.ref p, sv, st] ∧ Pen H p c n ∧ n ≤ 600000 ∧ SetV K H sv F r w ∧ SetOk F r w ∧ StV K H st t ∧ TbOk r t ∧
  ∀ v i H', InsV K H' v i → i.Ok → Drew p c H H' (n + 150) → Q v H'
def sp_draw_work (K : PySem.W.Frag) : Sp := fun vs H Q _ => ∃ (p c : Addr) (n m : Nat) (sv : V) (F : List Fd) (r w : Nat), vs = [.ref p, sv, .int m] ∧ Pen H p c n ∧ n ≤ 500000 ∧ m ≤ 60 ∧ SetV K H sv F r w ∧ SetOk F r w ∧
  ∀ q L st xs is t H', SqT K H' q [.ref L, st] → L ≠ p → H L = none → H' L = some (.lst xs) → InssV K H' xs is → (∀ i ∈ is, i.Ok) → is.length ≤ m → StV K H' st t → TbOk r t → runT F r (tb0 r) 0 is = .ok t → t.made ≤ is.length → Drew p c H H' (n + 10000) → Q (.ref q) H'
def pairD (es : Ent) : List PyData := es.map fun e => .tuple [.int (e.1 : Nat), fdat e.2]
def sp_law_pairs (K : PySem.W.Frag) : Sp := fun vs H Q _ => ∃ (D : Addr) (es : Ent), vs = [.ref D] ∧ EntV K H D es ∧ Asc es ∧ ∀ v H', Same H H' → Dp K H' v (.list (pairD es)) → Q v H'
/-- the numbers in order -/
theorem sorted_keys {es : Ent} (h : Asc es) {ys : List Int} (p : ys.Perm (es.map fun e => ((e.1 : Nat) : Int))) (o : ys.Pairwise (· ≤ ·)) : ys = es.map fun e => ((e.1 : Nat) : Int) := by
  refine PySem.W.ksm_same p o ?_
  have h1 := h.asc
  rw [List.pairwise_map] at h1 ⊢
  exact List.Pairwise.imp (fun h => by omega) h1
theorem keep_all {b m : Nat} {es : Ent} (h : m + sumE es ≤ b) : keepE b m es = es := by
  cases es with
  | nil => rfl
  | cons e es => unfold keepE; rw [if_pos h]
theorem keep_drop {b m : Nat} {es : Ent} {i : Nat} (hl : i ≤ es.length) (hj : ∀ j, j < i → ¬ m + sumE (es.drop j) ≤ b) (h : m + sumE (es.drop i) ≤ b) : keepE b m es = es.drop i := (gone_take es i hl hj (.inr h)).2
/-- many steps, one after the other -/
theorem runT_snoc {F : List Fd} {r : Nat} {i : Ins} : ∀ {is : List Ins} {t t' : Tb} {k : Nat}, runT F r t k is = .ok t' → ∀ {u : Tb}, stepT F r t' i = some u → runT F r t k (is ++ [i]) = .ok u
  | [], t, t', k, e, u, h => by
    cases e
    show runT F r t k [i] = _
    unfold runT
    rw [h]; rfl
  | j :: is, t, t', k, e, u, h => by
    unfold runT at e
    rw [List.cons_append]
    unfold runT
    cases c : stepT F r t j with
    | none => rw [c] at e; cases e
    | some v =>
      rw [c] at e
      exact runT_snoc e h
theorem step_made {F : List Fd} {r : Nat} {t t' : Tb} {i : Ins} (e : stepT F r t i = some t') : t'.made ≤ t.made + 1 := by
  have go : ∀ (o : Option Fd), (match o with | none => none | some f => if roomT t f = true then some (putT t f) else none) = some t' → t'.made ≤ t.made + 1 := by
    intro o e
    cases o with
    | none => cases e
    | some f =>
      simp only at e
      split at e
      · cases e; exact Nat.le_refl _
      · cases e
  cases i with
  | limit n =>
    unfold stepT at e
    simp only at e
    split at e
    · cases e; exact Nat.le_succ _
    · cases e
  | new y x => exact go (insF F t (.new y x)) e
  | again n => exact go (insF F t (.again n)) e
  | fixed n x => exact go (insF F t (.fixed n x)) e
  | entry n x => exact go (insF F t (.entry n x)) e
end Fld
namespace Fld
open PySem PySem.Spec PyProof.Rows L2
theorem dpAll_app {K : PySem.W.Frag} {H : Hp} : ∀ {xs ys : List V} {ds es : List PyData}, DpAll K H xs ds → DpAll K H ys es → DpAll K H (xs ++ ys) (ds ++ es)
  | _, _, _, _, .nil, s => s
  | _, _, _, _, .cons r t, s => .cons r (dpAll_app t s)
mutual
/-- data of tuples alone -/
def tupD : PyData → Bool
  | .list _ => false
  | .dict _ => false
  | .tuple xs => tupDAll xs
  | _ => true
def tupDAll : List PyData → Bool
  | [] => true
  | x :: xs => tupD x && tupDAll xs
end
mutual
theorem dp_ts {K : PySem.W.Frag} {H H' : Hp} (t : TS H H') : ∀ {v : V} {d : PyData}, Dp K H v d → tupD d = true → Dp K H' v d
  | _, _, .non, _ => .non
  | _, _, .bl b, _ => .bl b
  | _, _, .int i, _ => .int i
  | _, _, .str x, _ => .str x
  | _, _, .lst h a, n => by rw [tupD] at n; cases n
  | _, _, .tup h a, n => .tup (t.tup h) (dpAll_ts t a (by rw [tupD] at n; exact n))
theorem dpAll_ts {K : PySem.W.Frag} {H H' : Hp} (t : TS H H') : ∀ {vs : List V} {ds : List PyData}, DpAll K H vs ds → tupDAll ds = true → DpAll K H' vs ds
  | _, _, .nil, _ => .nil
  | _, _, .cons h s, n => by
    rw [tupDAll, Bool.and_eq_true] at n
    exact .cons (dp_ts t h n.1) (dpAll_ts t s n.2)
end
theorem tup_pair : ∀ es : Ent, tupDAll (pairD es) = true
  | [] => rfl
  | e :: es => by
    show (tupD (.tuple [.int (e.1 : Nat), fdat e.2]) && tupDAll (pairD es)) = true
    rw [tup_pair es]; rfl
theorem tupD_take : ∀ {ds : List PyData} (n : Nat), tupDAll ds = true → tupDAll (ds.take n) = true
  | _, 0, _ => rfl
  | [], _ + 1, _ => rfl
  | d :: ds, n + 1, h => by
    rw [tupDAll, Bool.and_eq_true] at h
    show (tupD d && tupDAll (ds.take n)) = true
    rw [h.1, tupD_take n h.2]; rfl
theorem pairs_keep {K : PySem.W.Frag} {H H1 H2 : Hp} {ps : List V} {es : Ent} {j : Nat} (h : DpAll K H ps ((pairD es).take j)) (s : Same H H1) (t : TS H1 H2) : DpAll K H2 ps ((pairD es).take j) := dpAll_ts ((TS.of s).trans t) h (tupD_take j (tup_pair es))
end Fld
/-! != of a dict and {}; != of two equal pairs of a number and a dict -/
namespace Fld
open PySem PySem.Spec PyProof.Rows L2
section
variable {X : Cx}
def rNeDic : R2 := fun x y H Q => ∃ a b ks, x = .ref a ∧ y = .ref b ∧ H a = some (.dK ks) ∧ H b = some (.dK []) ∧ Q (.bl (!ks.isEmpty)) H
theorem op_neDic (hu : X.A.units + 64 < cLine) : OpR X (compareOp .NotEq) rNeDic := by
  intro pins s σ H x y v u Q I rx ry h
  obtain ⟨a, b, ks, rfl, rfl, ea, eb, q⟩ := h
  obtain rfl : v = Value.ref a := rx
  obtain rfl : u = Value.ref b := ry
  obtain ⟨_, ya, va, ra, da⟩ := dk_of I.hok ea
  obtain ⟨_, yb, vb, rb, db⟩ := dk_of I.hok eb
  cases rb
  cases ra with
  | nil => exact PySem.W.keq_ne (knd := mixKind X.prog X.w) (r := true) ya yb da db (by omega) (fun _ => .nil) ⟨.bl false, H, I, rfl, q⟩
  | cons h t => exact PySem.W.keq_ne (knd := mixKind X.prog X.w) (r := true) ya yb da db (by omega) (fun z => (nomatch z)) ⟨.bl true, H, I, rfl, q⟩
/-- equal fields -/
theorem fd_eqAt {A : Around} {pins : List (Addr × Obj)} {σ : L2.St} {H : Hp} {s : Shared} (I : Inv X pins σ H s) (hu : A.units + 2 < cLine) {v u : V} {f : Fd} {x y : Value} (h1 : FdV X.K H v f) (h2 : FdV X.K H u f) (rx : RelV v x) (ry : RelV u y) : SeqAt.EqAt A s x y true := by
  obtain ⟨a, rfl, ha⟩ := h1
  obtain ⟨b, rfl, hb⟩ := h2
  cases rx
  cases ry
  by_cases e : a = b
  · subst e; exact SeqAt.EqAt.same _
  obtain ⟨i1, r1, t1, _⟩ := I.tuple ha
  obtain ⟨i2, r2, t2, _⟩ := I.tuple hb
  obtain ⟨x1, x2, rfl, p1, p2⟩ := vals2 r1
  obtain ⟨y1, y2, rfl, q1, q2⟩ := vals2 r2
  obtain ⟨k1, rfl⟩ := p1
  obtain ⟨k2, rfl⟩ := p2
  obtain ⟨k3, rfl⟩ := q1
  obtain ⟨k4, rfl⟩ := q2
  have same : ∀ (z : Str) (t t' : Tok), SeqAt.EqAt A.in1 s (.str z t) (.str z t') true := fun z t t' => by
    have := SeqAt.EqAt.str_str (A := A.in1) (s := s) z t z t'
    rw [beq_self_eq_true] at this; exact this
  refine SeqAt.EqAt.of_refs e ?_
  have := SeqAt.RcAt.tuples (A := A) (s := s) (l := a) (b := b) (e := fun _ => true) t1 t2 (by omega) (fun j h1 h2 => by
    match j, h1, h2 with
    | 0, _, _ => exact same _ _ _
    | 1, _, _ => exact same _ _ _)
  exact this
theorem hits_of {A : Around} {s : Shared} {kb : List (Key × Value)} : ∀ {ka : List (Key × Value)}, (∀ k v, (k, v) ∈ ka → ∃ y, valueAt kb k = some y ∧ SeqAt.EqAt A s v y true) → PySem.W.KeqHits A s kb ka true
  | [], _ => .nil
  | (k, v) :: r, h => by
    obtain ⟨y, h1, h2⟩ := h k v (List.mem_cons_self ..)
    exact PySem.W.KeqHits.hit (e := true) (b := true) h1 h2 (hits_of fun k' v' hm => h k' v' (List.mem_cons_of_mem _ hm))
theorem kv_mem {kvs : List (Key × V)} {vs : List (Key × Value)} (r : KV kvs vs) {k : Key} {x : Value} (h : (k, x) ∈ vs) : ∃ v, (k, v) ∈ kvs ∧ RelV v x := by
  unfold KV at r
  induction r with
  | nil => cases h
  | @cons p q _ _ h1 t ih =>
    rcases List.mem_cons.mp h with e | h
    · refine ⟨p.2, ?_, by have := h1.2; rw [← e] at this; exact this⟩
      have : p.1 = k := by rw [h1.1, ← e]
      rw [← this]; exact List.mem_cons_self ..
    · obtain ⟨v, hv, rv⟩ := ih h
      exact ⟨v, List.mem_cons_of_mem _ hv, rv⟩
theorem pairs_mem {P : Program} {w : World} : ∀ {es : List DictEntry} {vs : List (Key × Value)}, Pairs (mixKind P w) es vs → ∀ e ∈ es, ∃ p ∈ vs, keyIs p.1 e.key = true
  | _, _, .nil, e, h => by cases h
  | _, _, .cons h1 h2 t, e, h => by
    rcases List.mem_cons.mp h with rfl | h
    · exact ⟨_, List.mem_cons_self .., h1⟩
    · obtain ⟨p, hp, k⟩ := pairs_mem t e h
      exact ⟨p, List.mem_cons_of_mem _ hp, k⟩
theorem pairs_any {P P' : Program} {w w' : World} : ∀ {es : List DictEntry} {vs : List (Key × Value)}, Pairs (mixKind P w) es vs → Pairs (mixKind P' w') es vs
  | _, _, .nil => .nil
  | _, _, .cons h1 h2 t => .cons h1 h2 (pairs_any t)
theorem dict_any {P P' : Program} {w w' : World} {h : Heap} {a : Addr} {vs : List (Key × Value)} (hk : ∀ p ∈ vs, ∃ i, p.1 = Sum.inl i) (d : h.DictOf (mixKind P w) a vs) : h.DictOf (mixKind P' w') a vs := by
  obtain ⟨o, es, ep, h1, h2, h3, ko, pr, nd⟩ := d
  refine ⟨o, es, ep, h1, h2, h3, fun e he => ?_, pairs_any pr, nd⟩
  obtain ⟨k, k1, k2⟩ := ko e he
  obtain ⟨p, hp, k3⟩ := pairs_mem pr e (Array.mem_toList_iff.mpr he)
  obtain ⟨i, ei⟩ := hk p hp
  rw [ei] at k3
  rcases keyIs_shape k3 with ⟨j, t, e1, e2⟩ | ⟨x, t, e1, _⟩
  · rcases keyIs_shape k1 with ⟨j', t', e3, _⟩ | ⟨x, t', _, e4⟩
    · subst e3; exact ⟨_, k1, k2⟩
    · rw [e2] at e4; cases e4
  · cases e1
theorem keys_int {K : PySem.W.Frag} {H : Hp} {kvs : List (Key × V)} {es : Ent} {vs : List (Key × Value)} (h : Paired (PrV K H) kvs es) (r : KV kvs vs) : ∀ p ∈ vs, ∃ i, p.1 = Sum.inl i := by
  intro p hp
  have e : p.1 ∈ kvs.map (·.1) := by rw [r.keys]; exact List.mem_map.mpr ⟨p, hp, rfl⟩
  obtain ⟨kv, hkv, e2⟩ := List.mem_map.mp e
  obtain ⟨j, hj⟩ := List.getElem?_of_mem hkv
  obtain ⟨en, _, hpe⟩ := p_at h hj
  exact ⟨_, e2.symm.trans hpe.1⟩
def rNeTD (K : PySem.W.Frag) : R2 := fun x y H Q => ∃ (p q a b : Addr) (n : Int) (es : Ent), x = .ref p ∧ y = .ref q ∧ SqT K H p [.int n, .ref a] ∧ SqT K H q [.int n, .ref b] ∧ EntV K H a es ∧ EntV K H b es ∧ (es.map (·.1)).Nodup ∧ Q (.bl false) H
theorem op_neTD (hu : X.A.units + 64 < cLine) : OpR X (compareOp .NotEq) (rNeTD X.K) := by
  intro pins s σ H x y v u Q I rx ry h
  obtain ⟨p, q, a, b, n, es, rfl, rfl, hp, hq, ⟨ka, ea, pa⟩, ⟨kb, eb, pb⟩, nd, hQ⟩ := h
  obtain rfl : v = Value.ref p := rx
  obtain rfl : u = Value.ref q := ry
  obtain ⟨i1, r1, t1, _⟩ := I.tuple hp
  obtain ⟨i2, r2, t2, _⟩ := I.tuple hq
  obtain ⟨x1, x2, rfl, p1, p2⟩ := vals2 r1
  obtain ⟨y1, y2, rfl, q1, q2⟩ := vals2 r2
  obtain ⟨k1, rfl⟩ := p1
  obtain ⟨k3, rfl⟩ := q1
  cases p2
  cases q2
  obtain ⟨_, ya, va, ra, da⟩ := dk_of I.hok ea
  obtain ⟨_, yb, vb, rb, db⟩ := dk_of I.hok eb
  have hlen : va.length = vb.length := by rw [← ra.length, ← rb.length, p_len pa, p_len pb]
  have eqd : SeqAt.EqAt X.A.in1 s (.ref a) (.ref b) true := by
    by_cases e : a = b
    · subst e; exact SeqAt.EqAt.same _
    refine SeqAt.EqAt.of_refs e fun prog w E Q' h' => ?_
    refine PySem.W.keq_eq (knd := mixKind prog w) (r := true) ya yb (ka := va) (kb := vb) (dict_any (keys_int pa ra) da) (dict_any (keys_int pb rb) db) (by show X.A.units + 1 < cLine; omega) (fun _ => hits_of fun k x hx => ?_) (by rw [hlen]; simpa using h')
    obtain ⟨v1, hv1, rv1⟩ := kv_mem ra hx
    obtain ⟨j, hj⟩ := List.getElem?_of_mem hv1
    obtain ⟨e1, he1, hpe1⟩ := p_at pa hj
    obtain ⟨kv2, hkv2, hpe2⟩ := p_at' pb he1
    have nb := keys_nd pb nd
    have hv2 := val_mem nb (List.mem_of_getElem? hkv2)
    have ek : kv2.1 = k := hpe2.1.trans hpe1.1.symm
    rw [ek] at hv2
    have rr := rb.val k
    rw [hv2] at rr
    obtain ⟨y, hy, ry⟩ := rr.some_of
    exact ⟨y, hy, fd_eqAt I (by show X.A.units + 1 + 1 + 2 < cLine; omega) hpe1.2 hpe2.2 rv1 ry⟩
  have eqn : SeqAt.EqAt X.A.in1 s (.int n k1) (.int n k3) true := by
    have := SeqAt.EqAt.int_int (A := X.A.in1) (s := s) n k1 n k3
    rw [beq_self_eq_true] at this; exact this
  have := SeqAt.RcNeAt.tuples (A := X.A) (s := s) (l := p) (b := q) (e := fun _ => true) t1 t2 (by omega) (fun j h1 h2 => by
    match j, h1, h2 with
    | 0, _, _ => exact eqn
    | 1, _, _ => exact eqd)
  exact this X.prog X.w _ _ ⟨.bl false, H, I, rfl, hQ⟩
end
end Fld
namespace Fld
open PySem PySem.Spec PyProof.Rows L2
theorem strOk_txt {x : Str} {a b : Int} (h : txt (.str x) a b = true) : PyData.strOk x = true := by
  show x.cps.all (· < 0x110000) = true
  rw [← Array.all_toList]
  refine List.all_eq_true.mpr fun c hc => decide_eq_true ?_
  have h1 : (charCodes.all fun c => decide (c < 0x110000)) = true := by decide
  exact of_decide_eq_true (List.all_eq_true.mp h1 c (List.contains_iff_mem.mp (List.all_eq_true.mp (txt_all h) c hc)))
theorem lay_fds : ∀ {F : List Fd}, (∀ f ∈ F, FdOk f) → PyData.canLayAll0 (F.map fdat) = true
  | [], _ => by rw [List.map_nil, PyData.canLayAll0]
  | f :: F, h => by
    have hf := h f (List.mem_cons_self ..)
    have h1 : (fdat f).canLay0 = true := by
      show (PyData.tuple [.str f.1, .str f.2]).canLay0 = true
      simp [PyData.canLay0, PyData.canLayAll0, strOk_txt hf.n, strOk_txt hf.v]
    rw [List.map_cons, PyData.canLayAll0, h1, lay_fds fun x hx => h x (List.mem_cons_of_mem _ hx)]
    rfl
theorem fds_shaped {F : List Fd} (h : ∀ f ∈ F, FdOk f) (hl : F.length ≤ 40) : SeqAt.shaped (.tuple (F.map fdat)) = true := by
  have z := (sz_fds h hl).dp
  show (PyData.canLay0 (.tuple (F.map fdat)) && decide (PyData.depth (.tuple (F.map fdat)) ≤ 64)) = true
  rw [decide_eq_true (by omega), PyData.canLay0, lay_fds h]
  rfl
end Fld
/-! a law over work: data of the work, pop, what a state tells -/
namespace Fld
open PySem PySem.Spec PyProof.Rows L2
theorem sz_insD {i : Ins} (ok : i.Ok) : Sz 1500 1 i.dat := by
  have hi : ∀ n : Nat, n ≤ 9999 → Sz 1010 0 (.int (n : Nat)) := fun n h => sz_int (Nat.lt_of_le_of_lt (show n ≤ 9999 from h) (by decide +kernel))
  have hx : ∀ {x : Str}, txt (.str x) 0 40 = true → Sz 402 0 (.str x) := fun h => sz_txt (b := 40) h
  have hy : ∀ {x : Str}, txt (.str x) 1 20 = true → Sz 202 0 (.str x) := fun h => sz_txt (b := 20) h
  have f5 : Sz 52 0 (.str "fixed") := ⟨by decide, by decide, by decide⟩
  have e5 : Sz 52 0 (.str "entry") := ⟨by decide, by decide, by decide⟩
  have a5 : Sz 52 0 (.str "again") := ⟨by decide, by decide, by decide⟩
  have l5 : Sz 52 0 (.str "limit") := ⟨by decide, by decide, by decide⟩
  have n3 : Sz 52 0 (.str "new") := ⟨by decide, by decide, by decide⟩
  have two : ∀ {a b : PyData}, Sz 52 0 a → Sz 1010 0 b → Sz 1500 1 (.tuple [a, b]) := fun ha hb =>
    sz_tup' (k := 0) (by rw [okVAll, okVAll, okVAll, ha.ok, hb.ok]; rfl) (by rw [wVAll, wVAll, wVAll]; have := ha.w; have := hb.w; omega) (by rw [PyData.depthAll, PyData.depthAll, PyData.depthAll]; have := ha.dp; have := hb.dp; omega)
  have tri : ∀ {a b d : PyData}, Sz 52 0 a → Sz 1010 0 b → Sz 402 0 d → Sz 1500 1 (.tuple [a, b, d]) := fun ha hb hd =>
    sz_tup' (k := 0) (by rw [okVAll, okVAll, okVAll, okVAll, ha.ok, hb.ok, hd.ok]; rfl) (by rw [wVAll, wVAll, wVAll, wVAll]; have := ha.w; have := hb.w; have := hd.w; omega) (by rw [PyData.depthAll, PyData.depthAll, PyData.depthAll, PyData.depthAll]; have := ha.dp; have := hb.dp; have := hd.dp; omega)
  cases i with
  | again n => exact two a5 (hi n ok)
  | limit n => exact two l5 (hi n ok)
  | fixed n x => exact tri f5 (hi n ok.1) (hx ok.2)
  | entry n x => exact tri e5 (hi n ok.1) (hx ok.2)
  | new y x => exact tri n3 ((hy ok.1).mono (by omega) (by omega)) (hx ok.2)
def wdat (is : List Ins) : PyData := .list (is.map Ins.dat)
theorem sz_work {is : List Ins} (ok : ∀ i ∈ is, i.Ok) (hl : is.length ≤ 60) : Sz 100000 2 (wdat is) := by
  obtain ⟨h1, h2, h3⟩ := sz_many (b := 1500) (k := 1) (ds := is.map Ins.dat) fun d hd => by
    obtain ⟨i, hi, rfl⟩ := List.mem_map.mp hd
    exact sz_insD (ok i hi)
  rw [List.length_map] at h2
  have : (1500 + 2) * is.length ≤ (1500 + 2) * 60 := Nat.mul_le_mul_left _ hl
  exact sz_lst' h1 (by omega) h3
theorem lay_insD {i : Ins} (ok : i.Ok) : i.dat.canLay0 = true := by
  have S : ∀ x : Str, PyData.strOk x = true → (PyData.str x).canLay0 = true := fun x h => by rw [PyData.canLay0]; exact h
  have two : ∀ (a b : PyData), a.canLay0 = true → b.canLay0 = true → (PyData.tuple [a, b]).canLay0 = true := fun a b ha hb => by simp [PyData.canLay0, PyData.canLayAll0, ha, hb]
  have three : ∀ (a b c : PyData), a.canLay0 = true → b.canLay0 = true → c.canLay0 = true → (PyData.tuple [a, b, c]).canLay0 = true := fun a b c ha hb hc => by simp [PyData.canLay0, PyData.canLayAll0, ha, hb, hc]
  have I : ∀ n : Nat, (PyData.int (n : Nat)).canLay0 = true := fun n => by rw [PyData.canLay0]
  cases i with
  | again n => exact two _ _ (S _ (by decide +kernel)) (I n)
  | limit n => exact two _ _ (S _ (by decide +kernel)) (I n)
  | fixed n x => exact three _ _ _ (S _ (by decide +kernel)) (I n) (S _ (strOk_txt ok.2))
  | entry n x => exact three _ _ _ (S _ (by decide +kernel)) (I n) (S _ (strOk_txt ok.2))
  | new y x => exact three _ _ _ (S _ (by decide +kernel)) (S _ (strOk_txt ok.1)) (S _ (strOk_txt ok.2))
theorem wdat_shaped {is : List Ins} (ok : ∀ i ∈ is, i.Ok) (hl : is.length ≤ 60) : SeqAt.shaped (wdat is) = true := by
  have z := (sz_work ok hl).dp
  have h : ∀ {is : List Ins}, (∀ i ∈ is, i.Ok) → PyData.canLayAll0 (is.map Ins.dat) = true := by
    intro is
    induction is with
    | nil => intro _; rw [List.map_nil, PyData.canLayAll0]
    | cons i is ih =>
      intro h
      rw [List.map_cons, PyData.canLayAll0, lay_insD (h i (List.mem_cons_self ..)), ih fun x hx => h x (List.mem_cons_of_mem _ hx)]
      rfl
  show ((wdat is).canLay0 && decide ((wdat is).depth ≤ 64)) = true
  rw [decide_eq_true (by omega)]
  show ((PyData.list (is.map Ins.dat)).canLay0 && true) = true
  rw [PyData.canLay0, h ok]
  rfl
theorem InssV.dp {K : PySem.W.Frag} {H : Hp} : ∀ {xs : List V} {is : List Ins}, InssV K H xs is → DpAll K H xs (is.map Ins.dat)
  | _, _, .nil => .nil
  | _, _, .cons h t => by
    obtain ⟨a, rfl, s⟩ := h
    exact .cons (dp_ins s) (InssV.dp t)
theorem seqIx {k n : Nat} (h : k < n) : seqIndex? (k : Int) n = some k := by
  unfold seqIndex?
  have h1 : ¬ ((k : Int) < 0) := by omega
  have h2 : (decide (0 ≤ (k : Int)) && decide ((k : Int) < (n : Int))) = true := by
    rw [decide_eq_true (by omega), decide_eq_true (by omega)]; rfl
  simp only [h1, if_false, h2, if_true, Int.toNat_natCast]
theorem p_erase {α β : Type} {R : α → β → Prop} : ∀ {xs : List α} {ys : List β} {k : Nat}, Paired R xs ys → Paired R (xs.eraseIdx k) (ys.eraseIdx k)
  | _, _, _, .nil => .nil
  | _, _, 0, .cons _ t => t
  | _, _, _ + 1, .cons h t => .cons h (p_erase t)
theorem dle_pairs (n : Nat) {es : Ent} (h : es.length ≤ 60) : DLe (n + 3) (.list (pairD es)) := ⟨by unfold pairD; rw [List.length_map]; omega, fun d hd => by
  obtain ⟨e, he, rfl⟩ := List.mem_map.mp hd
  exact dle_2 (dle_int _ _) (dle_2 (dle_str _ _) (dle_str _ _))⟩
/-- the state behind the instructions, if any -/
def stO (F : List Fd) (r : Nat) (is : List Ins) : Option Tb := match runT F r (tb0 r) 0 is with | .ok t => some t | .error _ => none
theorem stO_run {F : List Fd} {r : Nat} {is : List Ins} {t : Tb} (h : stO F r is = some t) : runT F r (tb0 r) 0 is = .ok t := by
  unfold stO at h
  split at h
  · rename_i e; cases h; exact e
  · cases h
theorem runT_app {F : List Fd} {r : Nat} {i : Ins} : ∀ {is : List Ins} {t : Tb} {k : Nat},
    (match runT F r t k (is ++ [i]) with | .ok t => some t | .error _ => none) = (match runT F r t k is with | .ok t => stepT F r t i | .error _ => none)
  | [], t, k => by
    show (match runT F r t k [i] with | .ok t => some t | .error _ => none) = stepT F r t i
    unfold runT
    cases stepT F r t i <;> rfl
  | j :: is, t, k => by
    rw [List.cons_append]
    unfold runT
    cases stepT F r t j with
    | none => rfl
    | some u => exact runT_app
theorem stO_snoc {F : List Fd} {r : Nat} {is : List Ins} {i : Ins} : stO F r (is ++ [i]) = match stO F r is with | some t => stepT F r t i | none => none := by
  unfold stO
  rw [runT_app]
  cases runT F r (tb0 r) 0 is <;> rfl
/-- a state or None -/
def OSt (K : PySem.W.Frag) (H : Hp) (v : V) (r n : Nat) : Option Tb → Prop
  | none => v = .non
  | some t => StV K H v t ∧ TbOk r t ∧ t.made ≤ n
theorem OSt.ks {K : PySem.W.Frag} {H H' : Hp} {v : V} {r n : Nat} {o : Option Tb} (h : OSt K H v r n o) (k : KS H H') : OSt K H' v r n o := by
  cases o with
  | none => exact h
  | some t => exact ⟨h.1.ks k, h.2⟩
theorem penL {H : Hp} {p c L : Addr} {n : Nat} {o : HO} (h : Pen H p c n) (h1 : L ≠ p) (h2 : L ≠ c) : Pen (upd H L o) p c n := h.upd (Ne.symm h1) (Ne.symm h2)
end Fld
/-! a kept error that has a dict: isinstance, its attribute; count and index of Booleans -/
namespace PySem.W
open PySem PySem.Spec PySem.Calls PyProof.Rows
/-- what is written of the class decides `__class__`, whatever the instance's own dict holds -/
theorem own_class_of {K : Frag} {D : Addr} {o : Option Obj} (C : L2.ExcC K D) : findObj K D o "__class__" = some (.bind (.builtin "getset_descriptor.__get__") (.builtin "object.__class__")) := by
  obtain ⟨body, hb, _⟩ := any_some C.hd
  unfold findObj
  simp only [hb, C.ha, Option.bind_some]
  simp [C.hn, C.ht]
/-- error.__class__ is the class -/
theorem own_class_get {P : Program} {w : World} {B : Around} {F : Value → Shared → Prop} {t : Shared} {K : Frag} {e D : Addr} {oe : Obj} {o : Option Obj} {R : Option Value → Shared → Prop} (C : L2.ExcC K D) (hK : K.In t.heap) (J : InstAt t.heap e oe D o) (q : R (some (.ref D)) { t with toks := t.toks + 1 }) :
    wpAny (model P w) B (getAttr? (.ref e) "__class__") R F t := by
  obtain ⟨hp, gs, ds, tk, os⟩ := t
  dsimp only at hK J q ⊢
  have ty := J.type (M := model P w)
  have isB : Looks (model P w) hp (isInstance (.ref e) (.type "BaseException")) true := ty.andThen (looks_subIn hK C.hs)
  have noG := looks_findIn (M := model P w) hK C.hk
  have atA := looks_findIn (M := model P w) hK C.hg
  have cls := looks_find (M := model P w) hK J (own_class_of C)
  have off : (onTheHeap (Value.ref D) && (Value.builtin "BaseException.__getattribute__" == Value.builtin "object.__getattribute__")) = false := by
    rw [show (Value.builtin "BaseException.__getattribute__" == Value.builtin "object.__getattribute__") = false by decide +kernel, Bool.and_false]
  unfold getAttr? getAttrBy? getAttrBy; apply wpAny_bind; apply wpAny_mkText; apply wpAny_bind; apply wpAny_attempt; apply wpAny_holding; apply wpAny_bind
  refine ty.at (wpAny_bind (atA.at (?_ : wpAny _ _ (if (onTheHeap (Value.ref D) && (Value.builtin "BaseException.__getattribute__" == Value.builtin "object.__getattribute__")) = true then _ else _) _ _ _)))
  rw [if_neg (by rw [off]; decide)]; unfold getAttrByItsOwn hookBefore; apply wpAny_bind
  rw [if_pos (show onTheHeap (Value.ref D) = true from rfl)]; refine noG.at ?_; apply wpAny_bind; apply wpAny_attempt; apply wpAny_holding
  unfold callGetattribute boundAndCalled; rw [if_neg (show ¬ ((false && onTheHeap (Value.builtin "BaseException.__getattribute__")) = true) from Bool.false_ne_true), PySem.F.excAttr_ValueError.ga.bind (.ref e)]; apply wpAny_bind; apply wpAny_pure
  refine (?_ : wpAny (model P w) _ (call (.builtin "BaseException.__getattribute__") [.ref e, .str "__class__" tk]) _ _ _)
  apply wpAny_call; refine codeAny_call_builtin PySem.F.excAttr_ValueError.ga.plain PySem.F.entry_bexc_ga ?_
  refine @check_slot (model P w) _ _ ⟨hp, gs, ds, tk + 1, os⟩ "BaseException.__getattribute__" "BaseException" "__getattribute__" (.ref e) [.str "__class__" tk] [] _ ?_ ?_ isB (PySem.F.args_bexc_ga (.ref e) (.str "__class__" tk)) ?_
  · decide +kernel
  · decide +kernel
  unfold Builtin.«object.__getattribute__»; apply wpAny_bind
  refine wpAny_of_eq (a := ((Value.ref e : Value), [Value.str "__class__" tk])) (by first | rfl | (simp only [slotArgs]; rfl)) (wpAny_bind (wpAny_pure (wpAny_bind (ty.at (wpAny_bind (cls.at ?_))))))
  refine (?_ : wpAny (model P w) _ (holding [Value.builtin "object.__class__"] (call (.builtin "getset_descriptor.__get__") [.builtin "object.__class__", .ref e, .ref D]) >>= ret) _ _ _)
  apply wpAny_bind; apply wpAny_holding; refine wpAny_call (class_get (s := ⟨hp, gs, ds, tk + 1, os⟩) (ox := oe) (od := o) hK J C.hm (wpAny_pure ?_))
  refine (?_ : wpAny (model P w) _ (handedOut (.ref D)) _ _ _)
  rw [handedOut_of (v := .ref D) rfl]
  first
    | exact wpAny_pure (wpAny_pure q)
    | exact wpAny_pure q
    | exact wpAny_pure (wpAny_bind (wpAny_pure (wpAny_pure q)))
/-- what isinstance asks of an error with or without a dict -/
theorem kit_err {K : Frag} {e D : Addr} {oe : Obj} {o : Option Obj} (C : L2.ExcC K D) : KitX K (.ref e) (.ref D) (fun h => InstAt h e oe D o) := by
  have isCls : ∃ c d cd sl, K.lookup D = some ⟨c, d, .cls cd, sl⟩ := by
    obtain ⟨cd, hc, _⟩ := any_some C.hd
    unfold clsIn at hc
    split at hc
    · rename_i c' d' cd' sl' h; exact ⟨c', d', cd', sl', h⟩
    · cases hc
  obtain ⟨c, d, cd, sl, hD⟩ := isCls
  refine ⟨fun _ _ _ J => J.type, fun _ _ hK _ => fun A' Q' E' s' k q => ?_, fun h tp dd its n sl' hK htp => ?_, fun hK J q => own_class_get C hK J q⟩
  · unfold isType loadHead
    exact wpAny_bind (wpAny_loadPart (k _ _ (hK _ _ hD)) (wpAny_pure q))
  · cases z : (Value.ref D == Value.ref tp) with
    | false => rfl
    | true =>
      have : D = tp := Value.ref.inj (beq_iff_eq.mp z)
      rw [← this, hK _ _ hD] at htp
      cases htp
end PySem.W
namespace Fld
open PySem PySem.Spec PyProof.Rows L2
/-- at a: a kept error of the class D with these attributes -/
def ErrD (H : Hp) (a D : Addr) (fs : List (Str × V)) : Prop := ∃ d, H a = some (ExK (.ref D) (some d) a) ∧ H d = some (.xd fs)
def rIsXd (K : PySem.W.Frag) : List V → Hp → VK → Prop := fun xs H Q => ∃ (a D : Addr) (fs : List (Str × V)) (c : V) (cv : Value) (b : Bool), xs = [.ref a, c] ∧ ErrD H a D fs ∧ ExcC K D ∧ ClsV c cv ∧ PySem.W.kitOne K (.ref D) cv = some b ∧ Q (.bl b) H
theorem call_isXd {X : Cx} : CallR X (.builtin "isinstance") (rIsXd X.K) := by
  intro pins s σ H xs us Q I r h
  obtain ⟨a, D, fs, c, cv, b, rfl, ⟨d, ha, hd⟩, C, hcv, e, q⟩ := h
  obtain ⟨u1, u2, rfl, r1, r2⟩ := vals2 r
  cases (show u1 = Value.ref a from r1)
  cases hcv.eq r2
  obtain ⟨⟨oe, vs, hget, hz, hv⟩, _⟩ := I.hok a _ ha
  obtain ⟨mA, hns, _⟩ : ObjOk X.prog X.w H s.heap d (.xd fs) := I.hok d _ hd
  obtain ⟨od, ho, _⟩ := lookIn_ns hns
  have J : PySem.W.InstAt s.heap a oe D (some od) := ⟨hget, hz.1, by unfold PySem.W.notCls; rw [hv] <;> rfl, by rw [hz.2]; exact ho⟩
  exact PySem.W.kia_one (PySem.W.kit_err C) I.kIn J e (fun z => nomatch z) fun tk => ⟨.bl b, H, I.kept (t' := tk) fun _ _ z => z, rfl, q⟩
def rIsW (K : PySem.W.Frag) : List V → Hp → VK → Prop := fun xs H Q => rIsU K xs H Q ∨ rIsXd K xs H Q
theorem call_isW {X : Cx} : CallR X (.builtin "isinstance") (rIsW X.K) := by
  intro pins s σ H xs us Q I r h
  rcases h with h | h
  · exact call_isU pins s σ H xs us Q I r h
  · exact call_isXd pins s σ H xs us Q I r h
/-- x.f, x a kept error with this attribute -/
def tXd (K : PySem.W.Frag) (f : Str) (te : TE) : TE := fun σ H Q => te σ H fun x H1 => ∃ (a C : Addr) (fs : List (Str × V)) (v : V), x = .ref a ∧ XfC K C ∧ PySem.W.findIn K (.ref C) f = some none ∧ ErrD H1 a C fs ∧ fs.lookup f = some v ∧ Q v H1
theorem pe_xd {X : Cx} {e : Expr} {te : TE} {pos : Pos} {n : Str} (he : PE X e te) (hb : attributeBase e n X.env (eval e X.env) = eval e X.env := by rfl) : PE X (.Attribute e n pos) (tXd X.K n te) := by
  refine ⟨fun pins s σ H Q I h => attr_of hb (thn (he.run pins s σ H _ I h) fun u s1 hh => ?_)⟩
  obtain ⟨x, H1, I1, rx, a, C, fs, v, ex, T, hno, ⟨d, ha, hd⟩, l, q⟩ := hh
  subst ex
  obtain rfl : u = Value.ref a := rx
  obtain ⟨⟨oe, vs, hget, hz, hv⟩, _⟩ := I1.hok a _ ha
  obtain ⟨mA, hns, hr⟩ : ObjOk X.prog X.w H1 s1.heap d (.xd fs) := I1.hok d _ hd
  obtain ⟨od, ho, hl⟩ := lookIn_ns hns
  obtain ⟨u, hu, ru⟩ := RelO.some_of (v := v) (o := mA n) (by rw [← l]; exact hr n)
  have J : PySem.W.InstAt s1.heap a oe C (some od) := ⟨hget, hz.1, by unfold PySem.W.notCls; rw [hv] <;> rfl, by rw [hz.2]; exact ho⟩
  exact HandSPX.exc_get I1.kIn J T.ga T.gg T.exC (PySem.W.findObj_own T.hdC hno rfl (by rw [hl, hu])) (handed_of ru) ⟨v, H1, I1.tok _, ru, q⟩
/-- list.count(True) -/
def rCntB (K : PySem.W.Frag) : V → List V → Hp → VK → Prop := fun x xs H Q => ∃ (p : Addr) (bs : List Bool), x = .ref p ∧ xs = [.bl true] ∧ SqL K H p (bs.map V.bl) ∧ Q (.int (bs.count true : Nat)) H
theorem bools_of : ∀ {bs : List Bool} {us : List Value}, Vals (bs.map V.bl) us → us = bs.map Value.bool
  | [], _, r => by cases r; rfl
  | b :: bs, _, r => by
    rw [List.map_cons] at r
    cases r with
    | cons h t => rw [List.map_cons, ← bools_of t, show _ = Value.bool b from h]
def yesB : Value → Bool
  | .bool b => b
  | _ => false
theorem cnt_bools : ∀ bs : List Bool, (bs.map Value.bool).countP yesB = bs.count true
  | [] => rfl
  | b :: bs => by
    rw [List.map_cons, List.countP_cons, List.count_cons, cnt_bools bs]
    cases b <;> rfl
theorem mt_cntB {X : Cx} : MtR X "list.count" (rCntB X.K) := by
  intro pins s σ H x xs v us Q I rx rxs h
  obtain ⟨p, bs, rfl, rfl, hs, q⟩ := h
  obtain rfl : v = Value.ref p := rx
  obtain ⟨u, rfl, ru⟩ := rxs.one
  obtain rfl : u = Value.bool true := ru
  obtain ⟨its, rv, ⟨⟨cls, dd, data, sl⟩, n, ho, hc, hdn, hd⟩, hlen⟩ := I.list hs
  simp only at hc hd
  subst hc hd
  have hb := bools_of rv
  refine call_meets PySem.F.slot_list_count ⟨_, ho, rfl⟩ PySem.F.entry_list_count (PySem.F.args_list_count_2 _ _) (SeqAt.list_countAt p its.toArray n dd sl (.bool true) yesB) ⟨ho, fun y hy => ?_, ?_⟩
  · rw [List.mem_toArray, hb] at hy
    obtain ⟨b, _, rfl⟩ := List.mem_map.mp hy
    have := SeqAt.EqAt.bool_bool (A := X.A.in1) (s := s) b true
    cases b <;> exact this
  · refine ⟨.int (bs.count true : Nat), H, I.tok _, ⟨s.toks, ?_⟩, q⟩
    have e : its.toArray.toList.countP yesB = bs.count true := by rw [List.toList_toArray, hb, cnt_bools]
    rw [e]
end Fld
namespace Fld
open PySem PySem.Spec PyProof.Rows L2
theorem FnOk_weak {P : Program} {w : World} {K : PySem.W.Frag} {mg : Str → Option Value} {base : Heap} {CX : CXT} {k : Nat} {f : Addr} {fd : FuncData} {ps : List Str} {s1 s2 : Sp} (G : FnOk P w K mg base CX k f fd ps s1) (h : ∀ vs H Q E, s2 vs H Q E → s1 vs H Q E) : FnOk P w K mg base CX k f fd ps s2 :=
  ⟨fun vs H Q E z => G.1 vs H Q E (h _ _ _ _ z), fun a b c d e f g i j k l m n z => G.2 a b c d e f g i j k l m n (h _ _ _ _ z)⟩
def dWork : PyData → Bool
  | .list ds => ds.all dIns
  | _ => false
theorem dWork_no {d : PyData} (e : subT (tyD d) "list" = false) : dWork d = false := by
  rw [sub_lst] at e
  cases d <;> first | rfl | cases e
def sp_bad_setting (K : PySem.W.Frag) (N : Addr) : Sp := fun vs H _ E => ∃ (v : V) (d : PyData), vs = [v] ∧ Dv K H v d ∧ Lim d ∧ dSetting d = false ∧ ∀ H', Same H H' → E (.ref N) none H'
/-- no setting; a setting and what is no list of instructions -/
def sp_run_wrong1 (K : PySem.W.Frag) (N : Addr) : Sp := fun vs H _ E => ∃ (v u : V) (d : PyData), vs = [v, u] ∧ Dv K H v d ∧ Lim d ∧ dSetting d = false ∧ ∀ H', Same H H' → E (.ref N) none H'
def sp_run_wrong2 (K : PySem.W.Frag) (N : Addr) : Sp := fun vs H _ E => ∃ (v u : V) (F : List Fd) (r w : Nat) (d : PyData), vs = [v, u] ∧ SetV K H v F r w ∧ SetOk F r w ∧ Dv K H u d ∧ Lim d ∧ dWork d = false ∧ ∀ H', Same H H' → E (.ref N) none H'
def dueD : Except Nat Tb → PyData
  | .ok _ => .str "fine"
  | .error k => .tuple [.str "bad", .int (k : Nat)]
/-- the word for a setting and a list -/
def sp_told (K : PySem.W.Frag) : Sp := fun vs H Q _ => ∃ (v u : V), vs = [v, u] ∧
  ((∃ d : PyData, Dv K H v d ∧ Lim d ∧ dSetting d = false ∧ ∀ H', Same H H' → Q (.str "setting") H') ∨
   (∃ (F : List Fd) (r w : Nat) (d : PyData), SetV K H v F r w ∧ SetOk F r w ∧ Dv K H u d ∧ Lim d ∧ dWork d = false ∧ ∀ H', Same H H' → Q (.str "value") H') ∨
   (∃ (L : Addr) (F : List Fd) (r w : Nat) (xs : List V) (is : List Ins), u = .ref L ∧ SetV K H v F r w ∧ SetOk F r w ∧ SqL K H L xs ∧ InssV K H xs is ∧ (∀ i ∈ is, i.Ok) ∧ is.length ≤ 1000 ∧ ∀ x H', Same H H' → Dp K H' x (dueD (runT F r (tb0 r) 0 is)) → Q x H'))
def sp_due (K : PySem.W.Frag) : Sp := fun vs H Q _ => ∃ (v : V) (L : Addr) (F : List Fd) (r w : Nat) (xs : List V) (is : List Ins), vs = [v, .ref L] ∧ SetV K H v F r w ∧ SetOk F r w ∧ SqL K H L xs ∧ InssV K H xs is ∧ (∀ i ∈ is, i.Ok) ∧ is.length ≤ 1000 ∧
  ∀ x H', Same H H' → Dp K H' x (dueD (runT F r (tb0 r) 0 is)) → Q x H'
theorem dIns_ok {i : Ins} (ok : i.Ok) : dIns i.dat = true := by
  have n9 : ∀ n : Nat, n ≤ 9999 → dBtw (.int (n : Nat)) 0 9999 = true := fun n h => nat_btw' (a := 0) (b := 9999) (by omega) h
  cases i with
  | again n => show (true && dBtw (.int (n : Nat)) 0 9999) = true; rw [n9 n ok]; rfl
  | limit n => show (true && dBtw (.int (n : Nat)) 0 9999) = true; rw [n9 n ok]; rfl
  | fixed n x => show (true && (dBtw (.int (n : Nat)) 0 9999 && dTxt (.str x) 0 40)) = true; rw [n9 n ok.1, show dTxt (.str x) 0 40 = true from ok.2]; rfl
  | entry n x => show (true && (dBtw (.int (n : Nat)) 0 9999 && dTxt (.str x) 0 40)) = true; rw [n9 n ok.1, show dTxt (.str x) 0 40 = true from ok.2]; rfl
  | new y x => show (dTxt (.str y) 1 20 && dTxt (.str x) 0 40) = true; rw [show dTxt (.str y) 1 20 = true from ok.1, show dTxt (.str x) 0 40 = true from ok.2]; rfl
theorem sz_lim {b k : Nat} {d : PyData} (z : Sz b k d) (h : b ≤ 10000000 := by decide) : Lim d := ⟨z.ok, Nat.le_trans z.w h⟩
end Fld
namespace Fld
open PySem PySem.Spec PyProof.Rows L2
theorem IsC.not {K : PySem.W.Frag} {C D : Addr} (h : IsC K C) (s : PySem.W.subIn K (.ref D) (.ref C) = some false) (sf : PySem.W.subIn K (.ref C) (.ref C) = some true) : PySem.W.kitOne K (.ref D) (.ref C) = some false := kit_own h.x.hd h.t s fun _ => by
  cases z : (Value.ref D == Value.ref C) with
  | false => rfl
  | true =>
    have : D = C := Value.ref.inj (beq_iff_eq.mp z)
    rw [this, sf] at s; cases s
theorem xfc_of {K : PySem.W.Frag} {C : Addr} (x : ExcC K C) : XfC K C := ⟨x.hg, x.hk, x.hs, x.hd⟩
end Fld
namespace Fld
open PySem PySem.Spec PyProof.Rows L2
/-! ### values that are no settings -/
theorem ts_off {H : Hp} {p : Addr} {xs : List V} (h : H p = some (.lst xs)) : TS H (OffS [p] H) := fun a u t e => by
  have n : a ∉ [p] := fun z => by
    rw [List.mem_singleton.mp z, h] at e; cases e
    exact nt_lst t
  rw [off_ne n]; exact e
theorem bad_a {a b c : PyData} (h : dFields 12 a = false) : dSetting (.tuple [a, b, c]) = false := by
  show (dFields 12 a && _ && _) = false
  rw [h]; rfl
theorem bad_b {a b c : PyData} (h : dBtw b 0 120 = false) : dSetting (.tuple [a, b, c]) = false := by
  show (_ && dBtw b 0 120 && _) = false
  rw [h, Bool.and_false, Bool.false_and]
theorem bad_c {a b c : PyData} (h : dBtw c 0 4 = false) : dSetting (.tuple [a, b, c]) = false := by
  show (_ && dBtw c 0 4) = false
  rw [h, Bool.and_false]
theorem sz_tri' {a b c : PyData} (x : Sz 60000 3 a) (y : Sz 1010 0 b) (z : Sz 1010 0 c) : Sz 100000 4 (.tuple [a, b, c]) := by
  refine sz_tup' (k := 3) ?_ ?_ ?_
  · rw [okVAll, okVAll, okVAll, okVAll, x.ok, y.ok, z.ok]; rfl
  · have := x.w; have := y.w; have := z.w
    rw [wVAll, wVAll, wVAll, wVAll]; omega
  · refine depthAll_le fun d hd => ?_
    simp only [List.mem_cons, List.not_mem_nil, or_false] at hd
    rcases hd with rfl | rfl | rfl
    · exact x.dp
    · exact Nat.le_trans y.dp (by decide)
    · exact Nat.le_trans z.dp (by decide)
theorem sz_triL {a b c : PyData} (x : Sz 60000 3 a) (y : Sz 1010 0 b) (z : Sz 1010 0 c) : Sz 100000 4 (.list [a, b, c]) := by
  refine sz_lst' (k := 3) ?_ ?_ ?_
  · rw [okVAll, okVAll, okVAll, okVAll, x.ok, y.ok, z.ok]; rfl
  · have := x.w; have := y.w; have := z.w
    rw [wVAll, wVAll, wVAll, wVAll]; omega
  · refine depthAll_le fun d hd => ?_
    simp only [List.mem_cons, List.not_mem_nil, or_false] at hd
    rcases hd with rfl | rfl | rfl
    · exact x.dp
    · exact Nat.le_trans y.dp (by decide)
    · exact Nat.le_trans z.dp (by decide)
/-- no setting, not too great -/
def BadS (d : PyData) : Prop := Lim d ∧ dSetting d = false
def fdsD (F : List Fd) : PyData := .tuple (F.map fdat)
def fdsL (F : List Fd) : PyData := .list (F.map fdat)
theorem sz_fdsL {F : List Fd} (h : ∀ f ∈ F, FdOk f) (hl : F.length ≤ 40) : Sz 30000 2 (fdsL F) := by
  obtain ⟨h1, h2, h3⟩ := sz_many (b := 700) (k := 1) (ds := F.map fdat) fun d hd => by
    obtain ⟨f, hf, rfl⟩ := List.mem_map.mp hd
    exact sz_fd (h f hf)
  rw [List.length_map] at h2
  have : (700 + 2) * F.length ≤ (700 + 2) * 40 := Nat.mul_le_mul_left _ hl
  exact sz_lst' h1 (by omega) h3
def bads1 (F : List Fd) (r w : Nat) : List PyData := [.none, .tuple [], .list [], .dict [], .int 7, .list [fdsD F, .int (r : Nat), .int (w : Nat)], .tuple [fdsD F, .int (r : Nat)], .tuple [fdsL F, .int (r : Nat), .int (w : Nat)], .tuple [fdsD F, .int (-1), .int (w : Nat)]]
def bads2 (F : List Fd) (r w : Nat) : List PyData := [.tuple [fdsD F, .int 121, .int (w : Nat)], .tuple [fdsD F, .int (r : Nat), .int 5], .tuple [fdsD F, .int (r : Nat), .int (-1)], .tuple [fdsD F, .bool true, .int 0], .tuple [fdsD F, .int (r : Nat), .none]]
theorem sz_small {n : Nat} (h : n ≤ 9999) : Sz 1010 0 (.int (n : Nat)) := sz_int (Nat.lt_of_le_of_lt (show n ≤ 9999 from h) (by decide +kernel))
theorem bads1_ok {F : List Fd} {r w : Nat} (ok : SetOk F r w) : ∀ d ∈ bads1 F r w, BadS d := by
  have hl := ok.len
  have zf : Sz 60000 3 (fdsD F) := (sz_fds ok.fd (by omega)).mono (by omega) (by omega)
  have zl : Sz 60000 3 (fdsL F) := (sz_fdsL ok.fd (by omega)).mono (by omega) (by omega)
  have ir : Sz 1010 0 (.int (r : Nat)) := sz_small (by have := ok.r; omega)
  have iw : Sz 1010 0 (.int (w : Nat)) := sz_small (by have := ok.w; omega)
  have im : Sz 1010 0 (.int (-1)) := sz_int
  intro d hd
  simp only [bads1, List.mem_cons, List.not_mem_nil, or_false] at hd
  rcases hd with rfl | rfl | rfl | rfl | rfl | rfl | rfl | rfl | rfl
  · exact ⟨⟨by decide, by decide⟩, rfl⟩
  · exact ⟨⟨by decide, by decide⟩, rfl⟩
  · exact ⟨⟨by decide, by decide⟩, rfl⟩
  · exact ⟨⟨by decide, by decide⟩, rfl⟩
  · exact ⟨sz_lim (b := 1010) (k := 0) sz_int, rfl⟩
  · exact ⟨sz_lim (sz_triL zf ir iw), rfl⟩
  · refine ⟨sz_lim (b := 100000) (k := 4) (sz_tup' (k := 3) ?_ ?_ ?_), rfl⟩
    · rw [okVAll, okVAll, okVAll, zf.ok, ir.ok]; rfl
    · have := zf.w; have := ir.w
      rw [wVAll, wVAll, wVAll]; omega
    · refine depthAll_le fun d hd => ?_
      simp only [List.mem_cons, List.not_mem_nil, or_false] at hd
      rcases hd with rfl | rfl
      · exact zf.dp
      · exact Nat.le_trans ir.dp (by decide)
  · exact ⟨sz_lim (sz_tri' zl ir iw), bad_a rfl⟩
  · exact ⟨sz_lim (sz_tri' zf im iw), bad_b (by decide)⟩
theorem bads2_ok {F : List Fd} {r w : Nat} (ok : SetOk F r w) : ∀ d ∈ bads2 F r w, BadS d := by
  have hl := ok.len
  have zf : Sz 60000 3 (fdsD F) := (sz_fds ok.fd (by omega)).mono (by omega) (by omega)
  have ir : Sz 1010 0 (.int (r : Nat)) := sz_small (by have := ok.r; omega)
  have iw : Sz 1010 0 (.int (w : Nat)) := sz_small (by have := ok.w; omega)
  have tr : Sz 1010 0 (.bool true) := ⟨by decide, by decide, by decide⟩
  have nn : Sz 1010 0 .none := ⟨by decide, by decide, by decide⟩
  intro d hd
  simp only [bads2, List.mem_cons, List.not_mem_nil, or_false] at hd
  rcases hd with rfl | rfl | rfl | rfl | rfl
  · exact ⟨sz_lim (sz_tri' zf sz_int iw), bad_b (by decide)⟩
  · exact ⟨sz_lim (sz_tri' zf ir sz_int), bad_c (by decide)⟩
  · exact ⟨sz_lim (sz_tri' zf ir sz_int), bad_c (by decide)⟩
  · exact ⟨sz_lim (sz_tri' zf tr sz_int), bad_b (by decide)⟩
  · exact ⟨sz_lim (sz_tri' zf ir nn), bad_c (by decide)⟩
/-- values beside fields -/
def odds : List PyData := [.tuple [.str "A", .str ""], .tuple [.str "", .str "a"], .tuple [.str "a", .str "B"], .tuple [.str "a"], .none, .str "ab"]
theorem odds_ok : ∀ d ∈ odds, dField d = false ∧ Sz 700 1 d := by
  intro d hd
  simp only [odds, List.mem_cons, List.not_mem_nil, or_false] at hd
  rcases hd with rfl | rfl | rfl | rfl | rfl | rfl <;> exact ⟨by decide +kernel, ⟨by decide +kernel, by decide +kernel, by decide +kernel⟩⟩
theorem bent_fds {F : List Fd} {d : PyData} {k : Nat} (hF : ∀ f ∈ F, FdOk f) (hl : F.length ≤ 12) (hd : dField d = false) (hz : Sz 700 1 d) (hk : k < 12) (hkl : k ≤ F.length) : dFields 12 (.tuple (((F.map fdat).take k ++ [d] ++ (F.map fdat).drop k).take 12)) = false ∧ Sz 60000 3 (.tuple (((F.map fdat).take k ++ [d] ++ (F.map fdat).drop k).take 12)) := by
  have mem : d ∈ (((F.map fdat).take k ++ [d] ++ (F.map fdat).drop k).take 12) := by
    refine List.mem_of_getElem? (i := k) ?_
    rw [List.getElem?_take_of_lt hk, List.append_assoc, List.getElem?_append_right (by rw [List.length_take, List.length_map]; omega)]
    rw [List.length_take, List.length_map, Nat.min_eq_left hkl, Nat.sub_self]; rfl
  refine ⟨?_, ?_⟩
  · show (decide _ && List.all _ dField) = false
    rw [show List.all (((F.map fdat).take k ++ [d] ++ (F.map fdat).drop k).take 12) dField = false from ?_, Bool.and_false]
    refine Bool.eq_false_iff.mpr fun h => ?_
    have := List.all_eq_true.mp h d mem
    rw [hd] at this; cases this
  · obtain ⟨h1, h2, h3⟩ := sz_many (b := 700) (k := 1) (ds := ((F.map fdat).take k ++ [d] ++ (F.map fdat).drop k).take 12) fun e he => by
      have he := List.mem_of_mem_take he
      rcases List.mem_append.mp he with he | he
      · rcases List.mem_append.mp he with he | he
        · obtain ⟨f, hf, rfl⟩ := List.mem_map.mp (List.mem_of_mem_take he)
          exact sz_fd (hF f hf)
        · rw [List.mem_singleton.mp he]; exact hz
      · obtain ⟨f, hf, rfl⟩ := List.mem_map.mp (List.mem_of_mem_drop he)
        exact sz_fd (hF f hf)
    have : (((F.map fdat).take k ++ [d] ++ (F.map fdat).drop k).take 12).length ≤ 12 := by rw [List.length_take]; omega
    have : (700 + 2) * (((F.map fdat).take k ++ [d] ++ (F.map fdat).drop k).take 12).length ≤ (700 + 2) * 12 := Nat.mul_le_mul_left _ this
    exact (sz_tup' (b := 30000) (k := 1) h1 (by omega) h3).mono (by omega) (by omega)
theorem one_fds {d : PyData} (hd : dField d = false) (hz : Sz 700 1 d) : dFields 12 (.tuple [d]) = false ∧ Sz 60000 3 (.tuple [d]) := by
  refine ⟨?_, ?_⟩
  · show (true && (dField d && true)) = false
    rw [hd]; rfl
  · exact (sz_tup' (b := 1000) (k := 1) (by rw [okVAll, okVAll, hz.ok]; rfl) (by rw [wVAll, wVAll]; have := hz.w; omega) (by rw [PyData.depthAll, PyData.depthAll]; have := hz.dp; omega)).mono (by omega) (by omega)
def fab : PyData := .tuple [.str "a", .str "b"]
theorem ab13 : dFields 12 (.tuple (List.replicate 13 fab)) = false ∧ Sz 60000 3 (.tuple (List.replicate 13 fab)) := ⟨rfl, ⟨by decide +kernel, by decide +kernel, by decide +kernel⟩⟩
def sp_wrong_setting (K : PySem.W.Frag) : Sp := fun vs H Q _ => ∃ (p c : Addr) (n : Nat) (v : V) (F : List Fd) (r w : Nat), vs = [.ref p, v] ∧ Pen H p c n ∧ n ≤ 600000 ∧ SetV K H v F r w ∧ SetOk F r w ∧ ∀ x d H', Dv K H' x d → BadS d → Drew p c H H' (n + 10) → Q x H'
end Fld
namespace Fld
open PySem PySem.Spec PyProof.Rows L2
/-! ### values that are no lists of instructions -/
def oddsI : List PyData := [.none, .tuple [.str "new", .str "", .str "a"], .tuple [.str "again", .int (-1)], .list [.str "again", .int 0], .tuple [.str "limit", .bool true], .tuple [.str "fixed", .int 0]]
theorem oddsI_ok : ∀ d ∈ oddsI, dIns d = false ∧ Sz 1500 1 d := by
  intro d hd
  simp only [oddsI, List.mem_cons, List.not_mem_nil, or_false] at hd
  rcases hd with rfl | rfl | rfl | rfl | rfl | rfl <;> exact ⟨by decide +kernel, ⟨by decide +kernel, by decide +kernel, by decide +kernel⟩⟩
structure WL (ds : List PyData) : Prop where
  bad : ∃ d ∈ ds, dIns d = false
  sz : ∀ d ∈ ds, Sz 1500 1 d
  len : ds.length ≤ 20
theorem WL.rev {ds : List PyData} (h : WL ds) : WL ds.reverse := ⟨let ⟨d, m, e⟩ := h.bad; ⟨d, List.mem_reverse.mpr m, e⟩, fun d m => h.sz d (List.mem_reverse.mp m), by rw [List.length_reverse]; exact h.len⟩
def BadW (d : PyData) : Prop := Lim d ∧ dWork d = false
theorem sz_all {ds : List PyData} (h : ∀ d ∈ ds, Sz 1500 1 d) (hl : ds.length ≤ 20) : Sz 50000 2 (.list ds) ∧ Sz 50000 2 (.tuple ds) := by
  obtain ⟨h1, h2, h3⟩ := sz_many (b := 1500) (k := 1) h
  have : (1500 + 2) * ds.length ≤ (1500 + 2) * 20 := Nat.mul_le_mul_left _ hl
  exact ⟨sz_lst' h1 (by omega) h3, sz_tup' h1 (by omega) h3⟩
theorem WL.badW {ds : List PyData} (h : WL ds) : BadW (.list ds) := by
  refine ⟨sz_lim (sz_all h.sz h.len).1, ?_⟩
  show ds.all dIns = false
  obtain ⟨d, m, e⟩ := h.bad
  refine Bool.eq_false_iff.mpr fun z => ?_
  have := List.all_eq_true.mp z d m
  rw [e] at this; cases this
def idat (is : List Ins) : List PyData := is.map Ins.dat
theorem wl_of {is : List Ins} {d : PyData} {ds : List PyData} (ok : ∀ i ∈ is, i.Ok) (hd : dIns d = false) (hz : Sz 1500 1 d) (m : d ∈ ds) (h : ∀ e ∈ ds, e = d ∨ e ∈ idat is ∨ e = (Ins.again 9999).dat) (hl : ds.length ≤ 20) : WL ds := by
  refine ⟨⟨d, m, hd⟩, fun e he => ?_, hl⟩
  rcases h e he with rfl | h | rfl
  · exact hz
  · obtain ⟨i, hi, rfl⟩ := List.mem_map.mp h
    exact sz_insD (ok i hi)
  · exact sz_insD (show (9999 : Nat) ≤ 9999 from Nat.le_refl _)
theorem wl_mid {is : List Ins} {d : PyData} (k : Nat) (ok : ∀ i ∈ is, i.Ok) (hd : dIns d = false) (hz : Sz 1500 1 d) (hl : is.length ≤ 12) : WL ((idat is).take k ++ [d] ++ (idat is).drop k) := by
  refine wl_of ok hd hz (List.mem_append_left _ (List.mem_append_right _ (List.mem_singleton.mpr rfl))) (fun e he => ?_) ?_
  · rcases List.mem_append.mp he with h | h
    · rcases List.mem_append.mp h with h | h
      · exact .inr (.inl (List.mem_of_mem_take h))
      · exact .inl (List.mem_singleton.mp h)
    · exact .inr (.inl (List.mem_of_mem_drop h))
  · rw [List.length_append, List.length_append, List.length_take, List.length_drop]
    have : (idat is).length = is.length := List.length_map ..
    show min k (idat is).length + 1 + _ ≤ 20
    omega
theorem wl_front {is : List Ins} {d : PyData} (ok : ∀ i ∈ is, i.Ok) (hd : dIns d = false) (hz : Sz 1500 1 d) (hl : is.length ≤ 12) : WL ([(Ins.again 9999).dat] ++ idat is ++ [d]) := by
  refine wl_of ok hd hz (List.mem_append_right _ (List.mem_singleton.mpr rfl)) (fun e he => ?_) ?_
  · rcases List.mem_append.mp he with h | h
    · rcases List.mem_append.mp h with h | h
      · exact .inr (.inr (List.mem_singleton.mp h))
      · exact .inr (.inl h)
    · exact .inl (List.mem_singleton.mp h)
  · rw [List.length_append, List.length_append]
    have : (idat is).length = is.length := List.length_map ..
    show 1 + (idat is).length + 1 ≤ 20
    omega
theorem wl_end {is : List Ins} {d : PyData} (ok : ∀ i ∈ is, i.Ok) (hd : dIns d = false) (hz : Sz 1500 1 d) (hl : is.length ≤ 12) : WL (idat is ++ [d]) := by
  refine wl_of ok hd hz (List.mem_append_right _ (List.mem_singleton.mpr rfl)) (fun e he => ?_) ?_
  · rcases List.mem_append.mp he with h | h
    · exact .inr (.inl h)
    · exact .inl (List.mem_singleton.mp h)
  · rw [List.length_append]
    have : (idat is).length = is.length := List.length_map ..
    show (idat is).length + 1 ≤ 20
    omega
theorem p_take {α β : Type} {R : α → β → Prop} : ∀ {xs : List α} {ys : List β} (k : Nat), Paired R xs ys → Paired R (xs.take k) (ys.take k)
  | _, _, 0, _ => .nil
  | _, _, _ + 1, .nil => .nil
  | _, _, k + 1, .cons h t => .cons h (p_take k t)
theorem p_drop {α β : Type} {R : α → β → Prop} : ∀ {xs : List α} {ys : List β} (k : Nat), Paired R xs ys → Paired R (xs.drop k) (ys.drop k)
  | _, _, 0, h => h
  | _, _, _ + 1, .nil => .nil
  | _, _, k + 1, .cons _ t => p_drop k t
end Fld
/-! number_octets, string_octets over data of any kind: what is refused -/
namespace Fld
open PySem PySem.Spec PyProof.Rows L2
def landOk : PyData → PyData → Bool
  | .int b, .int m => decide (Builtin.bitAnd m (((2 ^ b.toNat - 1 : Nat)) : Int) = 0)
  | _, _ => false
def okPre (d e : PyData) : Bool := dBtw d 1 8 && (dBtw e 0 255 && landOk d e)
theorem mark_of {d e : PyData} (h : okPre d e = true) : ∃ b m : Nat, d = .int (b : Nat) ∧ e = .int (m : Nat) ∧ MarkOk b m := by
  unfold okPre at h
  rw [Bool.and_eq_true, Bool.and_eq_true] at h
  obtain ⟨b, rfl, b0, b1⟩ := btw_int h.1
  obtain ⟨m, rfl, m0, m1⟩ := btw_int h.2.1
  obtain ⟨b, rfl⟩ : ∃ k : Nat, b = (k : Int) := ⟨b.toNat, by omega⟩
  obtain ⟨m, rfl⟩ : ∃ k : Nat, m = (k : Int) := ⟨m.toNat, by omega⟩
  have := h.2.2
  have z : Builtin.bitAnd (m : Int) (((2 ^ ((b : Int)).toNat - 1 : Nat)) : Int) = 0 := of_decide_eq_true this
  rw [Int.toNat_natCast] at z
  exact ⟨b, m, rfl, rfl, by omega, by omega, by omega, z⟩
theorem okPre_of {b m : Nat} (M : MarkOk b m) : okPre (.int (b : Nat)) (.int (m : Nat)) = true := by
  obtain ⟨hb1, hb8, hm, hz⟩ := id M
  have a1 : dBtw (.int (b : Nat)) 1 8 = true := by
    show (decide ((1 : Int) ≤ (b : Nat)) && decide (((b : Nat) : Int) ≤ 8)) = true
    rw [decide_eq_true (by omega), decide_eq_true (by omega)]; rfl
  have a2 : dBtw (.int (m : Nat)) 0 255 = true := by
    show (decide ((0 : Int) ≤ (m : Nat)) && decide (((m : Nat) : Int) ≤ 255)) = true
    rw [decide_eq_true (by omega), decide_eq_true (by omega)]; rfl
  have a3 : landOk (.int (b : Nat)) (.int (m : Nat)) = true := by
    show decide _ = true
    rw [Int.toNat_natCast]
    exact decide_eq_true hz
  unfold okPre
  rw [a1, a2, a3]; rfl
theorem nat_btw {k : Nat} (h : k ≤ 9999) : dBtw (.int (k : Nat)) 0 9999 = true := by
  show (decide ((0 : Int) ≤ (k : Nat)) && decide (((k : Nat) : Int) ≤ 9999)) = true
  rw [decide_eq_true (by omega), decide_eq_true (by omega)]; rfl
def sp_check_any (K : PySem.W.Frag) (N : Addr) : Sp := fun vs H Q E => ∃ (v u : V) (d e : PyData), vs = [v, u] ∧ Dv K H v d ∧ Dv K H u e ∧ (okPre d e = true → Q .non H) ∧ (okPre d e = false → E (.ref N) none H)
def okNum (n d e : PyData) : Bool := dBtw n 0 9999 && okPre d e
def sp_num_any (K : PySem.W.Frag) (N : Addr) : Sp := fun vs H Q E => ∃ (x v u : V) (n d e : PyData), vs = [x, v, u] ∧ Dv K H x n ∧ Dv K H v d ∧ Dv K H u e ∧
  (∀ (k b m : Nat), n = .int (k : Nat) → d = .int (b : Nat) → e = .int (m : Nat) → k ≤ 9999 → MarkOk b m → RetInts (numOct k b m) H Q) ∧ (okNum n d e = false → E (.ref N) none H)
def okStr (n d e : PyData) : Bool := dTxt n 0 40 && okPre d e
def sp_str_any (K : PySem.W.Frag) (N : Addr) : Sp := fun vs H Q E => ∃ (x v u : V) (n d e : PyData), vs = [x, v, u] ∧ Dv K H x n ∧ Lim n ∧ Dv K H v d ∧ Dv K H u e ∧
  (okStr n d e = true → ∀ v' H', Same H H' → Q v' H') ∧ (okStr n d e = false → ∀ H', Same H H' → E (.ref N) none H')
end Fld
namespace Fld
open PySem PySem.Spec PyProof.Rows L2
/-- isinstance(x, (C, ..)), classes of one's own, x a plain caught error -/
def rIsXT (K : PySem.W.Frag) : List V → Hp → VK → Prop := fun xs H Q => ∃ (a D tp : Addr) (cs : List V) (ws : List Value) (b : Bool), xs = [.ref a, .ref tp] ∧ H a = some (ExK (.ref D) none a) ∧ ExcC K D ∧ H tp = some (.tup cs) ∧ Paired ClsV cs ws ∧ PySem.W.kitAny K (.ref D) ws = some b ∧ Q (.bl b) H
theorem call_isXT {X : Cx} : CallR X (.builtin "isinstance") (rIsXT X.K) := by
  intro pins s σ H xs us Q I r h
  obtain ⟨a, D, tp, cs, ws, b, rfl, ha, C, hT, k, e, q⟩ := h
  obtain ⟨u1, u2, rfl, r1, r2⟩ := vals2 r
  cases (show u1 = Value.ref a from r1)
  cases (show u2 = Value.ref tp from r2)
  obtain ⟨⟨oe, vs, hget, hz, hv⟩, _⟩ := I.hok a _ ha
  have J : PySem.W.InstAt s.heap a oe D none := by
    obtain ⟨oc, od, oda, osl⟩ := oe
    obtain ⟨h1, h2⟩ := hz
    dsimp only at h1 h2 hv
    subst h1 h2 hv
    exact ⟨hget, rfl, rfl, True.intro⟩
  obtain ⟨_, its, rv, o, h1, h2, n, h3⟩ := (show ObjOk X.prog X.w H s.heap tp (.tup cs) from I.hok tp _ hT)
  have e3 := ClsV.all k rv
  subst e3
  obtain ⟨oc, od, dt, sl⟩ := o
  simp only at h2 h3
  subst h2 h3
  exact PySem.W.kia_tup (PySem.W.handS_kitx_exc C.hg C.hk C.hs C.hd C.ha C.hn C.ht C.hm) I.kIn J h1 e (fun z => nomatch z) fun tk => ⟨.bl b, H, I.kept (t' := tk) fun _ _ z => z, rfl, q⟩
theorem IsC.other {K : PySem.W.Frag} {C D : Addr} (h : IsC K C) (s : PySem.W.subIn K (.ref D) (.ref C) = some false) (sd : PySem.W.subIn K (.ref D) (.ref D) = some true) : PySem.W.kitOne K (.ref D) (.ref C) = some false := kit_own h.x.hd h.t s fun _ => by
  have n : D ≠ C := fun e => by rw [← e, sd] at s; cases s
  show decide _ = false
  simp [n]
theorem kitAny_no {K : PySem.W.Frag} {t : Value} {c : Value} {r : List Value} (h : PySem.W.kitOne K t c = some false) : PySem.W.kitAny K t (c :: r) = PySem.W.kitAny K t r := by
  rw [PySem.W.kitAny, h]
def okOct (way : Int) (n d e : PyData) : Bool := if way = 0 then okNum n d e else okStr n d e
/-- refused, by the way: the number, the text -/
def sp_refused3 (K : PySem.W.Frag) : Sp := fun vs H Q _ => ∃ (way : Int) (x v u : V) (n d e : PyData), vs = [.int way, x, v, u] ∧ (way = 0 ∨ way = 1) ∧ Dv K H x n ∧ Lim n ∧ Dv K H v d ∧ Dv K H u e ∧ okOct way n d e = false ∧ ∀ H', Same H H' → Q (.bl true) H'
end Fld
/-! an error of one's own, made with keywords alone: the base's __new__ passes them by, the own __init__ takes them -/
namespace PySem.HandSPX
open PySem PySem.W PySem.Calls PyProof.Rows
section
variable {P : Program} {w : World} {Z : Around} {Er : Value → Shared → Prop} {hp : Heap} {gs : Array GenState} {ds : Drawn} {tk : Nat} {os : OsState}
variable {nm qn : Str} {C Ns : Addr} {bases mro mro0 : List Value} {sn : List Str} {sub : List Value} {ab : Bool} {col : Option Bool} {dd : Option Addr} {m0 m1 m2 m3 m5 : Option Value} {B nId iId : String} {kw : List (Str × Value)} {hd_ : Bool}
/-- the base's __new__ may be called so -/
theorem kw_new_may (X : ExcBaseFacts B nId iId mro0) (same : ∀ Y : String, mro.contains (.type Y) = mro0.contains (.type Y)) {Y : Unit → Shared → Prop}
    (isC : hp.get? C = some (excClassObj nm qn C Ns bases mro hd_ sn sub ab col dd m0 m1 m2 m3 m5 nId)) (q : Y () ⟨hp, gs, ds, tk, os⟩) : wpAny (model P w) Z (checkBuiltinCall nId ⟨[.ref C], kw⟩) Y Er ⟨hp, gs, ds, tk, os⟩ := by
  have inB : (Value.ref C :: mro).contains (.type B) = true := by simp only [List.contains_cons, same, X.hasB, Bool.or_true]
  have plain := X.noStar
  simp only [checkBuiltinCall, X.newKind, X.newSplit, X.newRow]
  repeat (first | refine wpAny_loadPart_at isC ?_ | (refine wpAny_isSubtype_exc isC ?_; rw [inB]) | refine wpAny_staticBase_exc isC ?_ | refine wpAny_madeBy_exc isC ?_ | simp only [bne_self_eq_false, Bool.false_eq_true, if_false] | wp_step)
  exact q
/-- the base's __new__ lays an empty tuple and the bare error -/
theorem kw_new (X : ExcBaseFacts B nId iId mro0) (same : ∀ Y : String, mro.contains (.type Y) = mro0.contains (.type Y)) {Y : Result → Shared → Prop}
    (isC : hp.get? C = some (excClassObj nm qn C Ns bases mro hd_ sn sub ab col dd m0 m1 m2 m3 m5 nId))
    (q : Y (.ok (.ret (.ref (hp.objs.size + 1)))) ⟨(hp.push (W.kdv_tup [])).push (excO C hp.objs.size), gs, ds, tk, os⟩) : codeAny (model P w) Z (.builtin nId ⟨[.ref C], kw⟩) Y ⟨hp, gs, ds, tk, os⟩ := by
  have ends_ := X.ends
  have short : ([] : List Value).length ≤ sizeLine := Nat.zero_le _
  have inB : (Value.ref C :: mro).contains (.type B) = true := by simp only [List.contains_cons, same, X.hasB, Bool.or_true]
  have notA : (Value.ref C :: mro).contains (.type "AttributeError") = false := by rw [List.contains_cons, same, X.noAttr, Bool.or_false]; rfl
  have notN : (Value.ref C :: mro).contains (.type "NameError") = false := by rw [List.contains_cons, same, X.noName, Bool.or_false]; rfl
  apply codeAny_builtinAt X.entry; unfold Builtin.«BaseException.__new__»; apply wpAt_bind
  refine (?_ : wpAt _ _ _ (stack >>= _) _ _ _)
  apply wpAt_bind; refine wpAt_stack fun _ _ => ?_; apply wpAt_of_wpAny
  wp_walk
  apply wpAt_of_wpAny; rw [X.owner]
  repeat (first | with_reducible refine wpAny_madeHere_exc X.canon isC ?_ | with_reducible refine wpAny_loadPart_at isC ?_ | (with_reducible refine wpAny_isSubtype_exc isC ?_; first | rw [inB] | rw [notA] | rw [notN]) | wp_step)
  refine (?_ : Y _ _)
  rw [Heap.size_push]; exact q
/-- C(k = v, ..): the error is laid, then C's own __init__ runs -/
theorem kw_call (X : ExcBaseFacts B nId iId mro0) (same : ∀ Y : String, mro.contains (.type Y) = mro0.contains (.type Y)) {fI : Addr} {Y : Result → Shared → Prop}
    (isC : hp.get? C = some (excClassObj nm qn C Ns bases mro hd_ sn sub ab col dd m0 m1 m2 m3 m5 nId))
    (look : W.Looks (model P w) hp (typeLookup (.ref C) "__init__") (some (.ref fI))) (bind : ∀ self, W.Looks (model P w) hp (bindSpecial (.ref fI) self) (.ref fI, [self]))
    (q : codeAny (model P w) (Z.under (.builtin "type.__call__" ⟨[.ref C], kw⟩)) (.call (.ref fI) ⟨[.ref (hp.objs.size + 1)], kw⟩) (W.InitBack (hp.objs.size + 1) Y) ⟨(hp.push (W.kdv_tup [])).push (excO C hp.objs.size), gs, ds, tk, os⟩) :
    codeAny (model P w) Z (.call (.ref C) ⟨[], kw⟩) Y ⟨hp, gs, ds, tk, os⟩ := by
  have lk := tc_lookup
  have bd := tc_bind (.ref C)
  have isT : (⟨hp, gs, ds, tk, os⟩ : Shared).TypeIs (.ref C) "type" := ⟨_, isC, rfl⟩
  -- type.__call__ itself
  have body : ∀ {V : Fin → Shared → Prop} {F : Value → Shared → Prop}, codeAny (model P w) (Z.under (.builtin "type.__call__" ⟨[.ref C], kw⟩)) (.call (.ref fI) ⟨[.ref (hp.objs.size + 1)], kw⟩)
        (fun r s' => match r with | .ok (.ret v) => v = .none ∧ V (.done (.ret (.ref (hp.objs.size + 1)))) s' | .ok _ => False | .error e => F e s') ⟨(hp.push (W.kdv_tup [])).push (excO C hp.objs.size), gs, ds, tk, os⟩ →
      wpAny (model P w) (Z.under (.builtin "type.__call__" ⟨[.ref C], kw⟩)) (Builtin.«type.__call__» ⟨[.ref C], kw⟩) V F ⟨hp, gs, ds, tk, os⟩ := by
    intro V F run
    repeat (first | with_reducible refine wpAny_loadPart_at isC ?_ | with_reducible refine wpAny_madeBy_exc isC ?_ | wp_step)
    refine codeAny_call_builtin_code (Code.quiet_builtin _ X.quiet) (kw_new_may X same isC (kw_new X same isC (?_ : wpAny _ _ _ _ _ _)))
    have stays : ∀ b o, hp.get? b = some o → ((hp.push (W.kdv_tup [])).push (excO C hp.objs.size)).get? b = some o := fun b o e => Heap.get?_push_of_some _ (Heap.get?_push_of_some _ e)
    have isC2 := stays _ _ isC
    have made : ((hp.push (W.kdv_tup [])).push (excO C hp.objs.size)).get? (hp.objs.size + 1) = some (excO C hp.objs.size) := by heap_get
    have inC : (Value.ref C :: mro).contains (.ref C) = true := by simp
    have look2 := look.keeps stays
    have bind2 := (bind (.ref (hp.objs.size + 1))).keeps stays
    unfold isInstance
    repeat (first | with_reducible refine wpAny_loadPart_at made ?_ | (with_reducible refine wpAny_isSubtype_exc isC2 ?_; rw [inC]) | wp_step)
    refine (?_ : wpAny _ _ (typeLookup (.ref C) _) _ _ _)
    refine look2.at (wpAny_holding (wpAny_bind (bind2.at (wpAny_bind (wpAny_call (codeAny_mono run fun r s' z => ?_))))))
    rcases r with e | (v | _ | _ | _) <;> first | exact z | exact z.elim | skip
    obtain ⟨rfl, z⟩ := z
    first
      | exact wpAny_pure (wpAny_pure z)
      | (wp_walk; exact z)
  apply codeAny_of_tree; refine (?_ : wpAny _ _ (callAny (.ref C) _) _ _ _)
  repeat (any_goals (first | assumption | with_reducible refine wpAny_loadPart_at isC ?_ | wp_step))
  refine ⟨rfl, codeAny_call_builtin_at (Code.quiet_builtin _ (by decide +kernel)) entry_typeCall (wpAny_check_type_call_sub isC (body (codeAny_mono q fun r s' z => ?_)))⟩
  rcases r with e | (v | _ | _ | _) <;> exact z
end
end PySem.HandSPX
namespace L2
open PySem PySem.Spec PyProof.Rows
/-- C(k = v, ..) as a value: C's own __init__ keeping sp -/
def tMkOK (C : Addr) (n : Nat) (sp : Sp) (gV : List V → List V → List V) (tk : TA) : TE := fun σ H Q => tk σ H fun zs H1 => zs.length = n ∧ ∀ a, H1 a = none → sp (gV [.ref a] zs) (upd H1 a (exo a C none)) (fun v H2 => v = .non ∧ Q (.ref a) H2) (fun _ _ _ => False)
theorem pe_oexK {X : Cx} {CX : CXT} {x : Str} {C fI : Addr} {k : Nat} {fd : FuncData} {ps ks : List Str} {sp : Sp} {g : List Value → List Value → List Value} {gV : List V → List V → List V} {kws : List Keyword} {tk : TA} {p pos : Pos}
    (T : OexC X.K C) (iC : PySem.W.findIn X.K (.ref C) "__init__" = some (some (.ref fI))) (tI : PySem.W.typeIn X.K (.ref fI) = some (.type "function"))
    (F1 : FnOk X.prog X.w X.K X.mg X.base CX k fI fd ps sp) (hr : Room (k + 1) X.A) (hb : KBinds X.K fd ps ks g gV) (hx : Passes CX X (fun _ _ _ => False)) (hg : Gl X x) (hm : X.mg x = some (.ref C)) (hkw : PK X kws tk)
    (hall : (backToKw pos (keywordEach kws X.env)).all (·.1.isSome) = true := by rfl) (hks : (backToKw pos (keywordEach kws X.env)).filterMap (·.1) = ks := by rfl) (hdb : (x == ("__debug__" : Str)) = false := by decide)
    (hpl : ((backTo pos (starEach [] X.env)).any (·.1) || (backToKw pos (keywordEach kws X.env)).any (·.1.isNone)) = false := by rfl) :
    PE X (.Call (.Name x p) [] kws pos) (tMkOK C ks.length sp gV tk) := by
  refine ⟨fun pins s σ H Q I h => ?_⟩
  obtain ⟨nm, q, N, bs, bm, sn, sub, ab, col, dd, k0, k1, k2, k3, k5, hC, hbm⟩ := T.cls
  refine wpAny_Call_Name_kw (ld_glob I hg hm ?_ hdb)
  refine PySem.W.callWith_KW0 (h₀ := X.base) I.ok.mod.kin T.kC hall ?_ hpl
  refine thn (hkw.run pos pins s σ H _ I h) fun ws s2 ⟨zs, H1, I1, rz, l2, q1⟩ => ⟨I1.kIn, ?_⟩
  rw [hks]
  show wpAny _ _ (call (.ref C) [] (ks.zip ws)) _ _ _
  obtain ⟨hp, gg, dr, tt, os⟩ := s2
  have hsz : hp.objs.size ≤ hp.objs.size + 1 := Nat.le_succ _
  have hn : H1 (hp.objs.size + 1) = none := I1.hok.fresh hsz
  have hq := q1 (hp.objs.size + 1) hn
  have kk : ∀ b o, hp.get? b = some o → ((hp.push (PySem.W.kdv_tup [])).push (PySem.HandSPX.excO C hp.objs.size)).get? b = some o := fun b o e => Heap.get?_push_of_some _ (Heap.get?_push_of_some _ e)
  have hget : ((hp.push (PySem.W.kdv_tup [])).push (PySem.HandSPX.excO C hp.objs.size)).get? (hp.objs.size + 1) = some (PySem.HandSPX.excO C hp.objs.size) := by heap_get
  have I2 : Inv X pins σ (upd H1 (hp.objs.size + 1) (exo (hp.objs.size + 1) C none)) ⟨(hp.push (PySem.W.kdv_tup [])).push (PySem.HandSPX.excO C hp.objs.size), gg, dr, tt, os⟩ :=
    I1.laid (t' := tt) (a := hp.objs.size + 1) (o := exo (hp.objs.size + 1) C none) (h' := (hp.push (PySem.W.kdv_tup [])).push (PySem.HandSPX.excO C hp.objs.size)) kk hsz (exo_ok hget)
  have r1 : Vals [V.ref (hp.objs.size + 1)] [Value.ref (hp.objs.size + 1)] := .cons rfl .nil
  have r2 := hb.rel r1 rz
  have hl : (g [Value.ref (hp.objs.size + 1)] ws).length = ps.length := by rw [← r2.length]; exact F1.len _ _ _ _ hq
  refine wpAny_call (PySem.HandSPX.kw_call PySem.F.excBase_ValueError (fun Y => PySem.HandSPX.refsVE_contains Y bm hbm) (I1.kIn _ _ hC) (PySem.W.looks_findIn I1.kIn iC) (fun self => PySem.W.bind_fn I1.kIn self tI)
    (codeAny_mono (F1.run _ X.stack _ _ ⟨[Value.ref (hp.objs.size + 1)], ks.zip ws⟩ (g [Value.ref (hp.objs.size + 1)] ws) _ _ (fun _ _ _ => False) (hr.make C [] (ks.zip ws)) (I2.env0.make C [] (ks.zip ws)) (hb.to _ [Value.ref (hp.objs.size + 1)] ws I2.kIn hl) r2 hq) fun r s' hq' => ?_))
  cases r with
  | error er => exact hx pins σ _ _ er s' I2 hq'
  | ok fl =>
    cases fl with
    | ret u =>
      obtain ⟨v, H', I3, rv, ev, q3⟩ := I2.after hq'
      subst ev
      exact ⟨rv, ⟨V.ref (hp.objs.size + 1), H', I3, rfl, q3⟩⟩
    | next => exact False.elim hq'
    | brk => exact False.elim hq'
    | cont => exact False.elim hq'
end L2
/-! errors as values: made by hand, asked by isinstance, their attributes -/
namespace Fld
open PySem PySem.Spec PyProof.Rows L2
/-- at a: an error of one's own class D with these attributes; or with none -/
def ErrF (H : Hp) (a D : Addr) (fs : List (Str × V)) : Prop := ∃ d, H a = some (exo a D (some d)) ∧ H d = some (exd d fs)
def ErrAt (H : Hp) (a D : Addr) : Prop := H a = some (ExO (.ref D) a) ∨ ∃ fs, ErrF H a D fs
theorem ErrF.keep {H H' : Hp} {a D : Addr} {fs : List (Str × V)} (h : ErrF H a D fs) (s : Same H H') : ErrF H' a D fs := let ⟨d, h1, h2⟩ := h; ⟨d, s _ _ h1, s _ _ h2⟩
theorem ErrAt.keep {H H' : Hp} {a D : Addr} (h : ErrAt H a D) (s : Same H H') : ErrAt H' a D := h.elim (fun h => .inl (s _ _ h)) fun ⟨fs, h⟩ => .inr ⟨fs, h.keep s⟩
theorem ErrF.put {H : Hp} {L a D : Addr} {fs : List (Str × V)} {xs : List V} {o : HO} (h : ErrF H a D fs) (g : H L = some (.lst xs)) : ErrF (upd H L o) a D fs := by
  obtain ⟨d, h1, h2⟩ := h
  have n1 : a ≠ L := fun z => by rw [z, g] at h1; cases h1
  have n2 : d ≠ L := fun z => by rw [z, g] at h2; cases h2
  exact ⟨d, by rw [upd_ne n1]; exact h1, by rw [upd_ne n2]; exact h2⟩
theorem ErrAt.put {H : Hp} {L a D : Addr} {xs : List V} {o : HO} (h : ErrAt H a D) (g : H L = some (.lst xs)) : ErrAt (upd H L o) a D := by
  rcases h with h | ⟨fs, h⟩
  · have n1 : a ≠ L := fun z => by rw [z, g] at h; cases h
    exact .inl (by rw [upd_ne n1]; exact h)
  · exact .inr ⟨fs, h.put g⟩
def rIsO (K : PySem.W.Frag) : List V → Hp → VK → Prop := fun xs H Q => ∃ (a D : Addr) (c : V) (cv : Value) (b : Bool), xs = [.ref a, c] ∧ ErrAt H a D ∧ ExcC K D ∧ ClsV c cv ∧ PySem.W.kitOne K (.ref D) cv = some b ∧ Q (.bl b) H
theorem err_inst {P : Program} {w : World} {H : Hp} {h : Heap} {a D : Addr} (hok : HOk P w H h) (e : ErrAt H a D) : ∃ ox od, PySem.W.InstAt h a ox D od := by
  rcases e with ha | ⟨fs, d, ha, hd⟩
  · obtain ⟨⟨oe, vs, hget, hz, hv, _⟩, _⟩ := hok a _ ha
    exact ⟨oe, none, hget, hz.1, by unfold PySem.W.notCls; rw [hv] <;> rfl, by rw [hz.2]; exact True.intro⟩
  · obtain ⟨t1, hget⟩ := exo_at hok ha
    obtain ⟨mA, ⟨o, es, ep, ho, _⟩, _⟩ := exd_at hok hd
    exact ⟨_, some o, hget, rfl, rfl, ho⟩
theorem call_isO {X : Cx} : CallR X (.builtin "isinstance") (rIsO X.K) := by
  rintro pins s σ H xs us Q I r ⟨a, D, c, cv, b, rfl, ha, C, hcv, e, q⟩
  obtain ⟨u1, u2, rfl, r1, r2⟩ := vals2 r
  obtain rfl : u1 = Value.ref a := r1
  cases hcv.eq r2
  obtain ⟨ox, od, J⟩ := err_inst I.hok ha
  exact PySem.W.kia_one (PySem.W.kit_err C) I.kIn J e (fun z => nomatch z) fun tk => ⟨.bl b, H, I.kept (t' := tk) fun _ _ z => z, rfl, q⟩
/-- o.f, o an error made with a field f -/
def tXo (K : PySem.W.Frag) (f : Str) (te : TE) : TE := fun σ H Q => te σ H fun x H1 => ∃ (a C : Addr) (fs : List (Str × V)) (v : V), x = .ref a ∧ XfC K C ∧ PySem.W.findIn K (.ref C) f = some none ∧ ErrF H1 a C fs ∧ fs.lookup f = some v ∧ Q v H1
theorem pe_xo {X : Cx} {e : Expr} {te : TE} {pos : Pos} {n : Str} (he : PE X e te) (hb : attributeBase e n X.env (eval e X.env) = eval e X.env := by rfl) : PE X (.Attribute e n pos) (tXo X.K n te) := by
  refine ⟨fun pins s σ H Q I h => attr_of hb (thn (he.run pins s σ H _ I h) fun u s1 hh => ?_)⟩
  obtain ⟨x, H1, I1, rx, a, C, fs, v, rfl, T, hno, ⟨dd, ea, ed⟩, l, q⟩ := hh
  cases (show u = Value.ref a from rx)
  obtain ⟨t1, at_⟩ := exo_at I1.hok ea
  obtain ⟨mA, ns_, rel⟩ := exd_at I1.hok ed
  obtain ⟨od, ho, hl⟩ := lookIn_ns ns_
  obtain ⟨u, hu, ru⟩ := RelO.some_of (o := mA n) (v := v) (l ▸ rel n)
  exact HandSPX.exc_get I1.kIn (od := some od) ⟨at_, rfl, rfl, ho⟩ T.ga T.gg T.exC (PySem.W.findObj_own T.hdC hno rfl (by rw [hl, hu])) (handed_of ru) ⟨v, H1, I1.tok _, ru, q⟩
/-- self, and the one argument by its name -/
def g2 {α : Type} : List α → List α → List α
  | [a], [v] => [a, v]
  | _, _ => []
theorem g2_two {α : Type} {us ws : List α} (h : (g2 us ws).length = 2) : ∃ a v, us = [a] ∧ ws = [v] := by
  match us, ws, h with
  | [a], [v], _ => exact ⟨a, v, rfl, rfl⟩
theorem g2_rel {vs : List V} {us : List Value} {zs : List V} {ws : List Value} (r : Vals vs us) (s : Vals zs ws) : Vals (g2 vs zs) (g2 us ws) := by
  cases r with
  | nil => exact .nil
  | cons h t =>
    cases t with
    | cons _ _ => exact .nil
    | nil =>
      cases s with
      | nil => exact .nil
      | cons h2 t2 =>
        cases t2 with
        | nil => exact .cons h (.cons h2 .nil)
        | cons _ _ => exact .nil
theorem made_go {C : Addr} {f : Str} {k : Int} {H1 : Hp} {Q : VK} (hk : k.natAbs < 2 ^ 1000) (q : ∀ a H', H1 a = none → Same H1 H' → ErrF H' a C [(f, .int k)] → Q (.ref a) H') :
    ([V.int k] : List V).length = 1 ∧ ∀ a, H1 a = none → sp_err C f (g2 [.ref a] [.int k]) (upd H1 a (exo a C none)) (fun v H2 => v = .non ∧ Q (.ref a) H2) (fun _ _ _ => False) := by
  refine ⟨rfl, fun a na => ⟨a, k, rfl, hk, upd_same, fun dx hdx hne => ⟨rfl, q a _ na (fun b o hb => ?_) ⟨dx, upd_same, ?_⟩⟩⟩⟩
  · have n1 : b ≠ a := ne_of_none hb na
    have hdx' : H1 dx = none := by rw [upd_ne hne] at hdx; exact hdx
    have n2 : b ≠ dx := ne_of_none hb hdx'
    rw [upd_ne n1, upd_ne n2, upd_ne n1]; exact hb
  · rw [upd_ne hne, upd_same]
theorem made_go2 {C a : Addr} {f : Str} {k : Int} {H1 : Hp} {R : Hp → Prop} (hk : k.natAbs < 2 ^ 1000) (na : H1 a = none) (q : ∀ H', Same H1 H' → ErrF H' a C [(f, .int k)] → R H') :
    sp_err C f (g2 [.ref a] [.int k]) (upd H1 a (exo a C none)) (fun v H2 => v = .non ∧ R H2) (fun _ _ _ => False) := by
  refine ⟨a, k, rfl, hk, upd_same, fun dx hdx hne => ⟨rfl, q _ (fun b o hb => ?_) ⟨dx, upd_same, ?_⟩⟩⟩
  · have n1 : b ≠ a := ne_of_none hb na
    have hdx' : H1 dx = none := by rw [upd_ne hne] at hdx; exact hdx
    have n2 : b ≠ dx := ne_of_none hb hdx'
    rw [upd_ne n1, upd_ne n2, upd_ne n1]; exact hb
  · rw [upd_ne hne, upd_same]
theorem kit_ve {K : PySem.W.Frag} {D : Addr} (s : PySem.W.subIn K (.ref D) (.type "ValueError") = some true) : PySem.W.kitOne K (.ref D) (.type "ValueError") = some true := by
  unfold PySem.W.kitOne
  rw [if_neg (fun z => by cases beq_iff_eq.mp z)]
  show (if PySem.W.kitMeta "ValueError" = true then PySem.W.subIn K (.ref D) (.type "ValueError") else none) = some true
  rw [if_pos (by decide +kernel)]; exact s
theorem kit_root {K : PySem.W.Frag} {D FE : Addr} (r : RootC K FE) (h : HeirC K D FE) : PySem.W.kitOne K (.ref D) (.ref FE) = some true := kit_own r.d_ r.t_ h.u_ fun z => nomatch z
end Fld
/-! a def that calls repr, called by the law itself: the guards are told on -/
namespace Fld
open PySem PySem.Spec PyProof.Rows L2
structure MidOk (P : Program) (w : World) (K : PySem.W.Frag) (mg : Str → Option Value) (base : Heap) (CX : CXT) (k : Nat) (f : Addr) (fd : FuncData) (ps : List Str) (sp : Sp) : Prop where
  len : ∀ vs H Q E, sp vs H Q E → vs.length = ps.length
  run : ∀ (A : Around) (outer : List Env) (s : Shared) (H : Hp) (args : Args) (us : List Value) (vs : List V) (Q : VK) (E : XK), A.guards = some [] → Room k A → Env0 P w K mg base A outer s H → BindsTo s fd args (ps.zip us) → Vals vs us → sp vs H Q E →
    codeAny (model P w) A (.call (.ref f) args) (CR CX outer P w H s Q E) s
theorem mid_of {P : Program} {w : World} {K : PySem.W.Frag} {mg : Str → Option Value} {base : Heap} {x qual : Str} {st : Stmt} {f : Addr} {fd : FuncData} {N ps : List Str} {k : Nat} {sp : Sp} (F : Fun K x qual st f fd) (S : FnScope N ps (defScope st))
    (len : ∀ vs H Q E, sp vs H Q E → vs.length = ps.length)
    (hbody : ∀ (cdv : Value) (A : Around) (outer : List Env) (s : Shared) (H : Hp) (vs : List V) (Q : VK) (E : XK), A.guards = some [] → Room k (A.deeper (envOfC qual (defScope st) s.heap.objs.size f cdv)) → sp vs H Q E →
      ∃ t, PSs (cxOf CX0 P w K mg base N qual (defScope st) f cdv A outer s H E).nox (defBody st) t ∧ t { nx := fun _ H' => Q .non H', rt := Q } (start N vs) H) :
    MidOk P w K mg base CX0 (k + 1) f fd ps sp := by
  obtain ⟨oc, od, kV, doc, pm, an, cdv, ct, osl, rfl, lk, hcd⟩ := F.ex
  refine ⟨len, fun A outer s H args us vs Q E hA hr e0 hb r hsp => ?_⟩
  have old := fun b o (e : base.get? b = some o) => (e0.bs b o e).1
  have KX : K.In s.heap := e0.mod.kin.keeps old
  have kinds : ∀ y ∈ ps.zip us, (defScope st).names.lookup y.1 = some .local ∨ ((defScope st).names.lookup y.1 = some .cell ∧ ((cellsFrom (s.heap.objs.size + 1) (defScope st).names []).lookup y.1).isSome = true) := by
    rintro ⟨n, v⟩ hy
    exact (S.par n (List.of_mem_zip hy).1).elim Or.inl fun q => Or.inr ⟨q, PySem.W.cellsFrom_some _ _ _ (Or.inl q)⟩
  refine codeAny_call_function hr.depth (KX _ _ lk) rfl S.co S.gen rfl (PySem.W.codeRec_of KX hcd) (hb _ _ _ _ (wpAny_newFunctionEnv_cells S.kind kinds ?_))
  rintro env rfl s1 x
  refine ⟨(e0.mod.nolimit.keeps old).keeps x.toInCall.keep, codeAny_func ?_⟩
  obtain ⟨t, ht, hq⟩ := hbody cdv A outer s H vs Q E hA (hr.deeper _) hsp
  refine wpAny_mono (ht.nox.run [] s1 (start N vs) H _ (inv_start (CX := CX0) (E := E) S hr.hd e0 (len _ _ _ _ hsp) r x) hq) (fun fl s' hs => ?_) fun _ _ z => z
  match fl, hs with
  | .ret u, ⟨v, _, H', J, rv, q⟩ => exact ⟨v, H', J.os, J.bare, J.base, J.hok, rv, q⟩
  | .next, ⟨_, H', J, q⟩ => exact ⟨V.non, H', J.os, J.bare, J.base, J.hok, rfl, q⟩
  | .brk, ⟨_, _, _, q⟩ => exact q.elim
  | .cont, ⟨_, _, _, q⟩ => exact q.elim
section
variable {X : Cx} {CX : CXT} {k : Nat} {f : Addr} {fd : FuncData} {ps : List Str} {sp : Sp} {E : XK} {x : Str} {p pos : Pos} {e : Expr} {es : List Expr} {t : TA}
/-- f(e, ..): no repr is under way -/
theorem pe_callM (G : X.A.guards = some []) (F : MidOk X.prog X.w X.K X.mg X.base CX k f fd ps sp) (hr : Room k X.A) (hg : Gl X x) (hm : X.mg x = some (.ref f)) (hk : PySem.W.keepIn X.K (.ref f) = true) (hb : Binds X.K fd ps []) (hx : Passes CX X E) (ha : PA X (e :: es) t)
    (hdb : (x == ("__debug__" : Str)) = false := by decide) (he : starEach (e :: es) X.env = (false, eval e X.env) :: starEach es X.env := by rfl) (hpl : (backTo pos (starEach es X.env)).any (·.1) = false := by rfl) :
    PE X (.Call (.Name x p) (e :: es) [] pos) (tCall sp [] E t) := by
  refine ⟨fun pins s σ H Q I h => wpAny_Call_Name_kw (ld_glob I hg hm (PySem.W.callWith_K (h₀ := X.base) I.ok.mod.kin hk (thn (ha.run pos pins s σ H _ I h) fun us s1 ⟨vs, H1, I1, r, q⟩ => ⟨I1.kIn, ?_⟩) he hpl) hdb)⟩
  have r2 : Vals (vs ++ []) (us ++ []) := r.append .nil
  have hl : (us ++ []).length = ps.length := by rw [← r2.length]; exact F.len _ _ _ _ q
  refine wpAny_call (codeAny_mono (F.run X.A X.stack s1 H1 ⟨us, []⟩ (us ++ []) (vs ++ []) Q E G hr I1.env0 (hb s1 us I1.kIn hl) r2 q) fun r s' hq => ?_)
  match r, hq with
  | .error er, hq => exact hx pins σ H1 s1 er s' I1 hq
  | .ok (.ret u), hq => exact I1.after hq
end
end Fld
namespace Fld
open PySem PySem.Spec PyProof.Rows L2
def sp_made_right : Sp := fun vs H Q _ => ∃ (p c : Addr) (n : Nat), vs = [.ref p] ∧ Pen H p c n ∧ n ≤ 600000 ∧ ∀ H', Q (.bl true) H'
theorem bools_shaped {bs : List Bool} (h : bs.length ≤ 1000) : SeqAt.shaped (.list (bs.map PyData.bool)) = true := by
  have a : ∀ bs : List Bool, PyData.canLayAll0 (bs.map PyData.bool) = true := by
    intro bs
    induction bs with
    | nil => rw [List.map_nil, PyData.canLayAll0]
    | cons b bs ih => rw [List.map_cons, PyData.canLayAll0, PyData.canLay0, ih]; rfl
  have d : ∀ bs : List Bool, PyData.depthAll (bs.map PyData.bool) ≤ 0 := by
    intro bs
    refine depthAll_le fun d hd => ?_
    obtain ⟨b, _, rfl⟩ := List.mem_map.mp hd
    rw [PyData.depth]; exact Nat.le_refl _
  show (PyData.canLay0 (.list (bs.map PyData.bool)) && decide (PyData.depth (.list (bs.map PyData.bool)) ≤ 64)) = true
  rw [PyData.canLay0, a, PyData.depth, decide_eq_true (by have := d bs; omega)]; rfl
theorem eqv_bools (bs : List Bool) : PyData.eqv (.list (bs.map PyData.bool)) (.list (bs.map PyData.bool)) = true := by
  refine SeqAt.eqv_refl _ ?_
  rw [PyData.canLay0]
  induction bs with
  | nil => rw [List.map_nil, PyData.canLayAll0]
  | cons b bs ih => rw [List.map_cons, PyData.canLayAll0, PyData.canLay0, ih]; rfl
theorem dp_bools {K : PySem.W.Frag} {H : Hp} : ∀ bs : List Bool, DpAll K H (bs.map V.bl) (bs.map PyData.bool)
  | [] => .nil
  | b :: bs => .cons (.bl b) (dp_bools bs)
/-- an error of a class, without attributes or with one -/
def ErrV (H : Hp) (m : Int) (a : Addr) (co : Addr × Option Str) : Prop := match co.2 with
  | none => H a = some (ExO (.ref co.1) a)
  | some f => ErrF H a co.1 [(f, .int m)]
theorem ErrV.keep {H H' : Hp} {m : Int} {a : Addr} {co : Addr × Option Str} (h : ErrV H m a co) (s : Same H H') : ErrV H' m a co := by
  obtain ⟨c, o⟩ := co
  cases o with
  | none => exact s _ _ h
  | some f => exact ErrF.keep h s
theorem ErrV.put {H : Hp} {m : Int} {L a : Addr} {co : Addr × Option Str} {xs : List V} {o : HO} (h : ErrV H m a co) (g : H L = some (.lst xs)) : ErrV (upd H L o) m a co := by
  obtain ⟨c, f⟩ := co
  cases f with
  | none =>
    have h' : H a = some (ExO (.ref c) a) := h
    have n1 : a ≠ L := fun z => by rw [z, g] at h'; cases h'
    show upd H L o a = _
    rw [upd_ne n1]; exact h'
  | some f => exact ErrF.put h g
theorem ErrV.at_ {H : Hp} {m : Int} {a : Addr} {co : Addr × Option Str} (h : ErrV H m a co) : ErrAt H a co.1 := by
  obtain ⟨c, f⟩ := co
  cases f with
  | none => exact .inl h
  | some f => exact .inr ⟨_, h⟩
/-- a list of errors at L -/
def EL (H : Hp) (L : Addr) (m : Int) (cos : List (Addr × Option Str)) : Prop := ∃ as : List Addr, H L = some (.lst (as.map V.ref)) ∧ Paired (ErrV H m) as cos
/-- isinstance of a class, asked by 17 others -/
structure Kit17 (K : PySem.W.Frag) (c : Addr) (cs : List Addr) (k : Nat) : Prop where
  p : Paired (fun d b => PySem.W.kitOne K (.ref c) (.ref d) = some b) cs ((List.range 17).map fun j => decide (j = k))
theorem Kit17.mkB {K : PySem.W.Frag} {c : Addr} {cs : List Addr} {k : Nat} {bs : List Bool} (e : ((List.range 17).map fun j => decide (j = k)) = bs) (h : Paired (fun d b => PySem.W.kitOne K (.ref c) (.ref d) = some b) cs bs) : Kit17 K c cs k := ⟨e ▸ h⟩
end Fld
namespace Fld
open PySem PySem.Spec PyProof.Rows L2
theorem other_none : ∀ z, z ∈ otherSigns.cps.toList → isChar z = false := fun z hz => by
  have h : (otherSigns.cps.toList.all fun c => !isChar c) = true := by decide +kernel
  have := List.all_eq_true.mp h z hz
  simpa using this
theorem no_txt {a b : Str} {z : Nat} {i j : Int} (m : z ∈ (a.cps.toList ++ [z]) ++ b.cps.toList) (h : isChar z = false) : dTxt (.str (a ++ ⟨#[z]⟩ ++ b)) i j = false := by
  have e : (a ++ ⟨#[z]⟩ ++ b : Str).cps.toList = (a.cps.toList ++ [z]) ++ b.cps.toList := by
    show ((a.cps ++ #[z]) ++ b.cps).toList = _
    simp
  show (_ && (a ++ ⟨#[z]⟩ ++ b : Str).cps.toList.all isChar) = false
  rw [e]
  have : ((a.cps.toList ++ [z]) ++ b.cps.toList).all isChar = false := by
    refine Bool.eq_false_iff.mpr fun y => ?_
    have := List.all_eq_true.mp y z m
    rw [h] at this; cases this
  rw [this, Bool.and_false]
end Fld
/-! arguments that number_octets and string_octets refuse, as k02 draws them -/
namespace Fld
open PySem PySem.Spec PyProof.Rows L2
theorem pre_no1 {d e : PyData} (h : dBtw d 1 8 = false) : okPre d e = false := by unfold okPre; rw [h]; rfl
theorem pre_no2 {d e : PyData} (h : dBtw e 0 255 = false) : okPre d e = false := by unfold okPre; rw [h, Bool.false_and, Bool.and_false]
theorem pre_no3 {g : Nat} {m : Int} (h0 : 0 ≤ m) (h : m % (2 ^ g : Nat) ≠ 0) : okPre (.int (g : Nat)) (.int m) = false := by
  have e : landOk (.int (g : Nat)) (.int m) = false := by
    show decide (Builtin.bitAnd m (((2 ^ ((g : Int)).toNat - 1 : Nat)) : Int) = 0) = false
    rw [Int.toNat_natCast]
    refine decide_eq_false fun z => h ?_
    have b : Builtin.bitAnd m (((2 ^ g - 1 : Nat)) : Int) = m % (2 ^ g : Nat) := by
      have hp : 1 ≤ 2 ^ g := Nat.one_le_two_pow
      have := Bits.bitAnd_mask g h0
      have e2 : ((2 ^ g : Nat) : Int) = (2 : Int) ^ g := Int.natCast_pow 2 g
      have e3 : ((2 ^ g - 1 : Nat) : Int) = ((2 ^ g : Nat) : Int) - 1 := by omega
      rw [e3, e2]; exact this
    rw [← b]; exact z
  unfold okPre
  rw [e, Bool.and_false, Bool.and_false]
/-- prefixes that are none -/
def preOdds : List PyData := [.int 0, .int 9, .int (-1), .none, .bool true, .str "8", .int (10 ^ 20)]
theorem preOdds_ok : ∀ d ∈ preOdds, dBtw d 1 8 = false ∧ Sz 1100 1 d := by
  intro d hd
  simp only [preOdds, List.mem_cons, List.not_mem_nil, or_false] at hd
  rcases hd with rfl | rfl | rfl | rfl | rfl | rfl | rfl <;> exact ⟨by decide +kernel, by decide +kernel, by decide +kernel, by decide +kernel⟩
def numOdds : List PyData := [.none, .bool true, .int (-1), .int 10000, .int (10 ^ 19), .str "7", .list [.int 7], .tuple [.int 7], .dict []]
theorem numOdds_ok : ∀ d ∈ numOdds, dBtw d 0 9999 = false ∧ Sz 1100 1 d := by
  intro d hd
  simp only [numOdds, List.mem_cons, List.not_mem_nil, or_false] at hd
  rcases hd with rfl | rfl | rfl | rfl | rfl | rfl | rfl | rfl | rfl <;> exact ⟨by decide +kernel, by decide +kernel, by decide +kernel, by decide +kernel⟩
def markOdds (g : Nat) (mid : Int) : List PyData := [.int (-1), .int 256, .int 255, .int 1, .int ((2 ^ g : Nat) / 2), .none, .bool false, .str "0", .int (10 ^ 9), .int mid, .int mid, .int mid]
theorem markOdds_ok {g : Nat} {mid : Int} (h1 : 1 ≤ g) (h8 : g ≤ 8) (m0 : 0 ≤ mid) (m1 : mid ≤ 255) (hm : mid % (2 ^ g : Nat) ≠ 0) : ∀ d ∈ markOdds g mid, okPre (.int (g : Nat)) d = false ∧ Sz 1100 1 d := by
  have zi : ∀ i : Int, i.natAbs ≤ 9999 → Sz 1100 1 (.int i) := fun i h => (sz_int (Nat.lt_of_le_of_lt h (by decide +kernel))).mono (by decide) (by decide)
  intro d hd
  simp only [markOdds, List.mem_cons, List.not_mem_nil, or_false] at hd
  rcases hd with rfl | rfl | rfl | rfl | rfl | rfl | rfl | rfl | rfl | rfl | rfl | rfl
  · exact ⟨pre_no2 (by decide +kernel), zi _ (by decide)⟩
  · exact ⟨pre_no2 (by decide +kernel), zi _ (by decide)⟩
  · refine ⟨pre_no3 (by decide) ?_, zi _ (by decide)⟩
    match g, h1, h8 with
    | 1, _, _ => decide
    | 2, _, _ => decide
    | 3, _, _ => decide
    | 4, _, _ => decide
    | 5, _, _ => decide
    | 6, _, _ => decide
    | 7, _, _ => decide
    | 8, _, _ => decide
  · refine ⟨pre_no3 (by decide) ?_, zi _ (by decide)⟩
    match g, h1, h8 with
    | 1, _, _ => decide
    | 2, _, _ => decide
    | 3, _, _ => decide
    | 4, _, _ => decide
    | 5, _, _ => decide
    | 6, _, _ => decide
    | 7, _, _ => decide
    | 8, _, _ => decide
  · match g, h1, h8 with
    | 1, _, _ => exact ⟨pre_no3 (by decide) (by decide), zi _ (by decide)⟩
    | 2, _, _ => exact ⟨pre_no3 (by decide) (by decide), zi _ (by decide)⟩
    | 3, _, _ => exact ⟨pre_no3 (by decide) (by decide), zi _ (by decide)⟩
    | 4, _, _ => exact ⟨pre_no3 (by decide) (by decide), zi _ (by decide)⟩
    | 5, _, _ => exact ⟨pre_no3 (by decide) (by decide), zi _ (by decide)⟩
    | 6, _, _ => exact ⟨pre_no3 (by decide) (by decide), zi _ (by decide)⟩
    | 7, _, _ => exact ⟨pre_no3 (by decide) (by decide), zi _ (by decide)⟩
    | 8, _, _ => exact ⟨pre_no3 (by decide) (by decide), zi _ (by decide)⟩
  · exact ⟨pre_no2 rfl, ⟨by decide, by decide, by decide⟩⟩
  · exact ⟨pre_no2 rfl, ⟨by decide, by decide, by decide⟩⟩
  · exact ⟨pre_no2 rfl, ⟨by decide +kernel, by decide +kernel, by decide +kernel⟩⟩
  · exact ⟨pre_no2 (by decide +kernel), ⟨by decide +kernel, by decide +kernel, by decide +kernel⟩⟩
  · exact ⟨pre_no3 m0 hm, zi _ (by omega)⟩
  · exact ⟨pre_no3 m0 hm, zi _ (by omega)⟩
  · exact ⟨pre_no3 m0 hm, zi _ (by omega)⟩
/-- unit * t + 1 + s is no mark -/
theorem mid_mod {g t s : Nat} (ht : t < 256 / 2 ^ g) (hs : s + 1 < 2 ^ g) : (((2 ^ g * t + 1 + s : Nat)) : Int) % (2 ^ g : Nat) ≠ 0 ∧ 2 ^ g * t + 1 + s ≤ 255 := by
  have e : (2 ^ g * t + 1 + s) % 2 ^ g = 1 + s := by
    rw [Nat.add_assoc, Nat.mul_add_mod, Nat.mod_eq_of_lt (by omega)]
  refine ⟨fun z => ?_, ?_⟩
  · have : ((2 ^ g * t + 1 + s) % 2 ^ g : Nat) = 0 := by exact_mod_cast z
    omega
  · have h1 : 2 ^ g * (t + 1) ≤ 256 := Nat.le_trans (Nat.mul_le_mul_left _ (show t + 1 ≤ 256 / 2 ^ g from ht)) (Nat.mul_div_le 256 (2 ^ g))
    rw [Nat.mul_add, Nat.mul_one] at h1
    omega
theorem oct_no {wy : Int} {n d e : PyData} (hw : wy = 0 ∨ wy = 1) (h : okPre d e = false) : okOct wy n d e = false := by
  rcases hw with rfl | rfl
  · show (dBtw n 0 9999 && okPre d e) = false
    rw [h, Bool.and_false]
  · show (dTxt n 0 40 && okPre d e) = false
    rw [h, Bool.and_false]
theorem oct_no0 {wy : Int} {n d e : PyData} (hw : wy = 0 ∨ wy = 1) (h0 : wy = 0 → dBtw n 0 9999 = false) (h1 : wy = 1 → dTxt n 0 40 = false) : okOct wy n d e = false := by
  rcases hw with rfl | rfl
  · show (dBtw n 0 9999 && okPre d e) = false
    rw [h0 rfl]; rfl
  · show (dTxt n 0 40 && okPre d e) = false
    rw [h1 rfl]; rfl
end Fld
namespace Fld
open PySem PySem.Spec PyProof.Rows L2
/-! ### the text by places -/
def top (i : Nat) : Stmt := PySem.Challenge.pw_fieldtable_k02_errors_of_octets.main.body.getD i (.Pass ⟨0, 0, 0, 0⟩)
abbrev s_NoOctets_init : Stmt := inClass (top 12) 0
abbrev s_BadTable_init : Stmt := inClass (top 13) 0
abbrev s_BadBlock_init : Stmt := inClass (top 14) 0
abbrev s_TooMany_init : Stmt := inClass (top 15) 0
abbrev s_BadAnswer_init : Stmt := inClass (top 16) 0
abbrev s_BadOrder_init : Stmt := inClass (top 17) 0
abbrev s_NoAnswer_init : Stmt := inClass (top 18) 0
abbrev s_is_between : Stmt := top 23
abbrev s_is_number : Stmt := top 24
abbrev s_is_text : Stmt := top 25
abbrev s_is_value : Stmt := top 26
abbrev s_check_prefix : Stmt := top 27
abbrev s_prefix_bits : Stmt := top 28
abbrev s_number_octets : Stmt := top 29
abbrev s_string_octets : Stmt := top 30
abbrev s_law_open : Stmt := top 32
abbrev s_law_spread : Stmt := top 33
abbrev s_law_take : Stmt := top 34
abbrev s_law_one_of : Stmt := top 35
abbrev s_law_signs : Stmt := top 36
abbrev s_law_draw_text : Stmt := top 37
abbrev s_law_draw_number : Stmt := top 38
abbrev s_law_wrong_text : Stmt := top 39
abbrev s_law_is_refused : Stmt := top 40
abbrev s_law_made_right : Stmt := top 41
abbrev s_law : Stmt := top 42
/-- what the top has written -/
structure Txt (K : PySem.W.Frag) (mg : Str → Option Value) where
  f_NoOctets_init : Addr
  d_NoOctets_init : FuncData
  F_NoOctets_init : Fun K "__init__" "NoOctets.__init__" s_NoOctets_init f_NoOctets_init d_NoOctets_init
  b_NoOctets_init : Binds K d_NoOctets_init ["self", "place"] []
  f_BadTable_init : Addr
  d_BadTable_init : FuncData
  F_BadTable_init : Fun K "__init__" "BadTable.__init__" s_BadTable_init f_BadTable_init d_BadTable_init
  b_BadTable_init : Binds K d_BadTable_init ["self", "number"] []
  f_BadBlock_init : Addr
  d_BadBlock_init : FuncData
  F_BadBlock_init : Fun K "__init__" "BadBlock.__init__" s_BadBlock_init f_BadBlock_init d_BadBlock_init
  b_BadBlock_init : Binds K d_BadBlock_init ["self", "stream"] []
  f_TooMany_init : Addr
  d_TooMany_init : FuncData
  F_TooMany_init : Fun K "__init__" "TooMany.__init__" s_TooMany_init f_TooMany_init d_TooMany_init
  b_TooMany_init : Binds K d_TooMany_init ["self", "stream"] []
  f_BadAnswer_init : Addr
  d_BadAnswer_init : FuncData
  F_BadAnswer_init : Fun K "__init__" "BadAnswer.__init__" s_BadAnswer_init f_BadAnswer_init d_BadAnswer_init
  b_BadAnswer_init : Binds K d_BadAnswer_init ["self", "number"] []
  f_BadOrder_init : Addr
  d_BadOrder_init : FuncData
  F_BadOrder_init : Fun K "__init__" "BadOrder.__init__" s_BadOrder_init f_BadOrder_init d_BadOrder_init
  b_BadOrder_init : Binds K d_BadOrder_init ["self", "number"] []
  f_NoAnswer_init : Addr
  d_NoAnswer_init : FuncData
  F_NoAnswer_init : Fun K "__init__" "NoAnswer.__init__" s_NoAnswer_init f_NoAnswer_init d_NoAnswer_init
  b_NoAnswer_init : Binds K d_NoAnswer_init ["self", "event"] []
  f_is_between : Addr
  d_is_between : FuncData
  F_is_between : Fun K "is_between" "is_between" s_is_between f_is_between d_is_between
  b_is_between : Binds K d_is_between ["thing", "least", "most"] []
  g_is_between : mg "is_between" = some (.ref f_is_between)
  f_is_number : Addr
  d_is_number : FuncData
  F_is_number : Fun K "is_number" "is_number" s_is_number f_is_number d_is_number
  b_is_number : Binds K d_is_number ["thing"] []
  g_is_number : mg "is_number" = some (.ref f_is_number)
  f_is_text : Addr
  d_is_text : FuncData
  F_is_text : Fun K "is_text" "is_text" s_is_text f_is_text d_is_text
  b_is_text : Binds K d_is_text ["thing", "least", "most"] []
  g_is_text : mg "is_text" = some (.ref f_is_text)
  f_is_value : Addr
  d_is_value : FuncData
  F_is_value : Fun K "is_value" "is_value" s_is_value f_is_value d_is_value
  b_is_value : Binds K d_is_value ["thing"] []
  g_is_value : mg "is_value" = some (.ref f_is_value)
  f_check_prefix : Addr
  d_check_prefix : FuncData
  F_check_prefix : Fun K "check_prefix" "check_prefix" s_check_prefix f_check_prefix d_check_prefix
  b_check_prefix : Binds K d_check_prefix ["prefix", "mark"] []
  g_check_prefix : mg "check_prefix" = some (.ref f_check_prefix)
  f_prefix_bits : Addr
  d_prefix_bits : FuncData
  F_prefix_bits : Fun K "prefix_bits" "prefix_bits" s_prefix_bits f_prefix_bits d_prefix_bits
  b_prefix_bits : Binds K d_prefix_bits ["prefix"] []
  g_prefix_bits : mg "prefix_bits" = some (.ref f_prefix_bits)
  f_number_octets : Addr
  d_number_octets : FuncData
  F_number_octets : Fun K "number_octets" "number_octets" s_number_octets f_number_octets d_number_octets
  b_number_octets : Binds K d_number_octets ["number", "prefix", "mark"] []
  g_number_octets : mg "number_octets" = some (.ref f_number_octets)
  f_string_octets : Addr
  d_string_octets : FuncData
  F_string_octets : Fun K "string_octets" "string_octets" s_string_octets f_string_octets d_string_octets
  b_string_octets : Binds K d_string_octets ["text", "prefix", "mark"] []
  g_string_octets : mg "string_octets" = some (.ref f_string_octets)
  f_law_open : Addr
  d_law_open : FuncData
  F_law_open : Fun K "_law_open" "_law_open" s_law_open f_law_open d_law_open
  b_law_open : Binds K d_law_open ["script"] []
  g_law_open : mg "_law_open" = some (.ref f_law_open)
  f_law_spread : Addr
  d_law_spread : FuncData
  F_law_spread : Fun K "_law_spread" "_law_spread" s_law_spread f_law_spread d_law_spread
  b_law_spread : Binds K d_law_spread ["cell", "at"] []
  g_law_spread : mg "_law_spread" = some (.ref f_law_spread)
  f_law_take : Addr
  d_law_take : FuncData
  F_law_take : Fun K "_law_take" "_law_take" s_law_take f_law_take d_law_take
  b_law_take : Binds K d_law_take ["pen", "amount"] []
  g_law_take : mg "_law_take" = some (.ref f_law_take)
  f_law_one_of : Addr
  d_law_one_of : FuncData
  F_law_one_of : Fun K "_law_one_of" "_law_one_of" s_law_one_of f_law_one_of d_law_one_of
  b_law_one_of : Binds K d_law_one_of ["pen", "some"] []
  g_law_one_of : mg "_law_one_of" = some (.ref f_law_one_of)
  f_law_signs : Addr
  d_law_signs : FuncData
  F_law_signs : Fun K "_law_signs" "_law_signs" s_law_signs f_law_signs d_law_signs
  b_law_signs : Binds K d_law_signs [] []
  g_law_signs : mg "_law_signs" = some (.ref f_law_signs)
  f_law_draw_text : Addr
  d_law_draw_text : FuncData
  F_law_draw_text : Fun K "_law_draw_text" "_law_draw_text" s_law_draw_text f_law_draw_text d_law_draw_text
  b_law_draw_text : Binds K d_law_draw_text ["pen", "least", "most"] []
  g_law_draw_text : mg "_law_draw_text" = some (.ref f_law_draw_text)
  f_law_draw_number : Addr
  d_law_draw_number : FuncData
  F_law_draw_number : Fun K "_law_draw_number" "_law_draw_number" s_law_draw_number f_law_draw_number d_law_draw_number
  b_law_draw_number : Binds K d_law_draw_number ["pen"] []
  g_law_draw_number : mg "_law_draw_number" = some (.ref f_law_draw_number)
  f_law_wrong_text : Addr
  d_law_wrong_text : FuncData
  F_law_wrong_text : Fun K "_law_wrong_text" "_law_wrong_text" s_law_wrong_text f_law_wrong_text d_law_wrong_text
  b_law_wrong_text : Binds K d_law_wrong_text ["pen"] []
  g_law_wrong_text : mg "_law_wrong_text" = some (.ref f_law_wrong_text)
  f_law_is_refused : Addr
  d_law_is_refused : FuncData
  F_law_is_refused : Fun K "_law_is_refused" "_law_is_refused" s_law_is_refused f_law_is_refused d_law_is_refused
  b_law_is_refused : Binds K d_law_is_refused ["way", "value", "prefix", "mark"] []
  g_law_is_refused : mg "_law_is_refused" = some (.ref f_law_is_refused)
  f_law_made_right : Addr
  d_law_made_right : FuncData
  F_law_made_right : Fun K "_law_made_right" "_law_made_right" s_law_made_right f_law_made_right d_law_made_right
  b_law_made_right : Binds K d_law_made_right ["pen"] []
  g_law_made_right : mg "_law_made_right" = some (.ref f_law_made_right)
  f_law : Addr
  d_law : FuncData
  F_law : Fun K "law" "law" s_law f_law d_law
  b_law : Binds K d_law ["script"] []
  g_law : mg "law" = some (.ref f_law)
  C_FieldError : Addr
  m_FieldError : Value
  B_FieldError : BaseC K mg "FieldError" C_FieldError m_FieldError
  R_FieldError : RootC K C_FieldError
  C_NoSetting : Addr
  P_NoSetting : PlainC K mg "NoSetting" C_NoSetting [.type "ValueError", .type "Exception", .type "BaseException", .type "object"]
  S_NoSetting : HeirC K C_NoSetting C_FieldError
  C_NoField : Addr
  P_NoField : PlainC K mg "NoField" C_NoField [.type "ValueError", .type "Exception", .type "BaseException", .type "object"]
  S_NoField : HeirC K C_NoField C_FieldError
  C_NoValue : Addr
  P_NoValue : PlainC K mg "NoValue" C_NoValue [.type "ValueError", .type "Exception", .type "BaseException", .type "object"]
  S_NoValue : HeirC K C_NoValue C_FieldError
  C_NoNumber : Addr
  P_NoNumber : PlainC K mg "NoNumber" C_NoNumber [.type "ValueError", .type "Exception", .type "BaseException", .type "object"]
  S_NoNumber : HeirC K C_NoNumber C_FieldError
  C_NoStream : Addr
  P_NoStream : PlainC K mg "NoStream" C_NoStream [.type "ValueError", .type "Exception", .type "BaseException", .type "object"]
  S_NoStream : HeirC K C_NoStream C_FieldError
  C_NoOctetList : Addr
  P_NoOctetList : PlainC K mg "NoOctetList" C_NoOctetList [.type "ValueError", .type "Exception", .type "BaseException", .type "object"]
  S_NoOctetList : HeirC K C_NoOctetList C_FieldError
  C_NoLog : Addr
  P_NoLog : PlainC K mg "NoLog" C_NoLog [.type "ValueError", .type "Exception", .type "BaseException", .type "object"]
  S_NoLog : HeirC K C_NoLog C_FieldError
  C_Held : Addr
  P_Held : PlainC K mg "Held" C_Held [.type "ValueError", .type "Exception", .type "BaseException", .type "object"]
  S_Held : HeirC K C_Held C_FieldError
  C_TooGreat : Addr
  P_TooGreat : PlainC K mg "TooGreat" C_TooGreat [.type "ValueError", .type "Exception", .type "BaseException", .type "object"]
  S_TooGreat : HeirC K C_TooGreat C_FieldError
  C_TooManyStates : Addr
  P_TooManyStates : PlainC K mg "TooManyStates" C_TooManyStates [.type "ValueError", .type "Exception", .type "BaseException", .type "object"]
  S_TooManyStates : HeirC K C_TooManyStates C_FieldError
  C_NoOctets : Addr
  E_NoOctets : ErrC K mg "NoOctets" "place" C_NoOctets f_NoOctets_init
  S_NoOctets : HeirC K C_NoOctets C_FieldError
  C_BadTable : Addr
  E_BadTable : ErrC K mg "BadTable" "number" C_BadTable f_BadTable_init
  S_BadTable : HeirC K C_BadTable C_FieldError
  C_BadBlock : Addr
  E_BadBlock : ErrC K mg "BadBlock" "stream" C_BadBlock f_BadBlock_init
  S_BadBlock : HeirC K C_BadBlock C_FieldError
  C_TooMany : Addr
  E_TooMany : ErrC K mg "TooMany" "stream" C_TooMany f_TooMany_init
  S_TooMany : HeirC K C_TooMany C_FieldError
  C_BadAnswer : Addr
  E_BadAnswer : ErrC K mg "BadAnswer" "number" C_BadAnswer f_BadAnswer_init
  S_BadAnswer : HeirC K C_BadAnswer C_FieldError
  C_BadOrder : Addr
  E_BadOrder : ErrC K mg "BadOrder" "number" C_BadOrder f_BadOrder_init
  S_BadOrder : HeirC K C_BadOrder C_FieldError
  C_NoAnswer : Addr
  E_NoAnswer : ErrC K mg "NoAnswer" "event" C_NoAnswer f_NoAnswer_init
  S_NoAnswer : HeirC K C_NoAnswer C_FieldError
  U_NoSetting_NoSetting : PySem.W.subIn K (.ref C_NoSetting) (.ref C_NoSetting) = some true
  U_NoSetting_NoField : PySem.W.subIn K (.ref C_NoSetting) (.ref C_NoField) = some false
  U_NoSetting_NoValue : PySem.W.subIn K (.ref C_NoSetting) (.ref C_NoValue) = some false
  U_NoSetting_NoNumber : PySem.W.subIn K (.ref C_NoSetting) (.ref C_NoNumber) = some false
  U_NoSetting_NoStream : PySem.W.subIn K (.ref C_NoSetting) (.ref C_NoStream) = some false
  U_NoSetting_NoOctetList : PySem.W.subIn K (.ref C_NoSetting) (.ref C_NoOctetList) = some false
  U_NoSetting_NoLog : PySem.W.subIn K (.ref C_NoSetting) (.ref C_NoLog) = some false
  U_NoSetting_Held : PySem.W.subIn K (.ref C_NoSetting) (.ref C_Held) = some false
  U_NoSetting_TooGreat : PySem.W.subIn K (.ref C_NoSetting) (.ref C_TooGreat) = some false
  U_NoSetting_TooManyStates : PySem.W.subIn K (.ref C_NoSetting) (.ref C_TooManyStates) = some false
  U_NoSetting_NoOctets : PySem.W.subIn K (.ref C_NoSetting) (.ref C_NoOctets) = some false
  U_NoSetting_BadTable : PySem.W.subIn K (.ref C_NoSetting) (.ref C_BadTable) = some false
  U_NoSetting_BadBlock : PySem.W.subIn K (.ref C_NoSetting) (.ref C_BadBlock) = some false
  U_NoSetting_TooMany : PySem.W.subIn K (.ref C_NoSetting) (.ref C_TooMany) = some false
  U_NoSetting_BadAnswer : PySem.W.subIn K (.ref C_NoSetting) (.ref C_BadAnswer) = some false
  U_NoSetting_BadOrder : PySem.W.subIn K (.ref C_NoSetting) (.ref C_BadOrder) = some false
  U_NoSetting_NoAnswer : PySem.W.subIn K (.ref C_NoSetting) (.ref C_NoAnswer) = some false
  U_NoField_NoSetting : PySem.W.subIn K (.ref C_NoField) (.ref C_NoSetting) = some false
  U_NoField_NoField : PySem.W.subIn K (.ref C_NoField) (.ref C_NoField) = some true
  U_NoField_NoValue : PySem.W.subIn K (.ref C_NoField) (.ref C_NoValue) = some false
  U_NoField_NoNumber : PySem.W.subIn K (.ref C_NoField) (.ref C_NoNumber) = some false
  U_NoField_NoStream : PySem.W.subIn K (.ref C_NoField) (.ref C_NoStream) = some false
  U_NoField_NoOctetList : PySem.W.subIn K (.ref C_NoField) (.ref C_NoOctetList) = some false
  U_NoField_NoLog : PySem.W.subIn K (.ref C_NoField) (.ref C_NoLog) = some false
  U_NoField_Held : PySem.W.subIn K (.ref C_NoField) (.ref C_Held) = some false
  U_NoField_TooGreat : PySem.W.subIn K (.ref C_NoField) (.ref C_TooGreat) = some false
  U_NoField_TooManyStates : PySem.W.subIn K (.ref C_NoField) (.ref C_TooManyStates) = some false
  U_NoField_NoOctets : PySem.W.subIn K (.ref C_NoField) (.ref C_NoOctets) = some false
  U_NoField_BadTable : PySem.W.subIn K (.ref C_NoField) (.ref C_BadTable) = some false
  U_NoField_BadBlock : PySem.W.subIn K (.ref C_NoField) (.ref C_BadBlock) = some false
  U_NoField_TooMany : PySem.W.subIn K (.ref C_NoField) (.ref C_TooMany) = some false
  U_NoField_BadAnswer : PySem.W.subIn K (.ref C_NoField) (.ref C_BadAnswer) = some false
  U_NoField_BadOrder : PySem.W.subIn K (.ref C_NoField) (.ref C_BadOrder) = some false
  U_NoField_NoAnswer : PySem.W.subIn K (.ref C_NoField) (.ref C_NoAnswer) = some false
  U_NoValue_NoSetting : PySem.W.subIn K (.ref C_NoValue) (.ref C_NoSetting) = some false
  U_NoValue_NoField : PySem.W.subIn K (.ref C_NoValue) (.ref C_NoField) = some false
  U_NoValue_NoValue : PySem.W.subIn K (.ref C_NoValue) (.ref C_NoValue) = some true
  U_NoValue_NoNumber : PySem.W.subIn K (.ref C_NoValue) (.ref C_NoNumber) = some false
  U_NoValue_NoStream : PySem.W.subIn K (.ref C_NoValue) (.ref C_NoStream) = some false
  U_NoValue_NoOctetList : PySem.W.subIn K (.ref C_NoValue) (.ref C_NoOctetList) = some false
  U_NoValue_NoLog : PySem.W.subIn K (.ref C_NoValue) (.ref C_NoLog) = some false
  U_NoValue_Held : PySem.W.subIn K (.ref C_NoValue) (.ref C_Held) = some false
  U_NoValue_TooGreat : PySem.W.subIn K (.ref C_NoValue) (.ref C_TooGreat) = some false
  U_NoValue_TooManyStates : PySem.W.subIn K (.ref C_NoValue) (.ref C_TooManyStates) = some false
  U_NoValue_NoOctets : PySem.W.subIn K (.ref C_NoValue) (.ref C_NoOctets) = some false
  U_NoValue_BadTable : PySem.W.subIn K (.ref C_NoValue) (.ref C_BadTable) = some false
  U_NoValue_BadBlock : PySem.W.subIn K (.ref C_NoValue) (.ref C_BadBlock) = some false
  U_NoValue_TooMany : PySem.W.subIn K (.ref C_NoValue) (.ref C_TooMany) = some false
  U_NoValue_BadAnswer : PySem.W.subIn K (.ref C_NoValue) (.ref C_BadAnswer) = some false
  U_NoValue_BadOrder : PySem.W.subIn K (.ref C_NoValue) (.ref C_BadOrder) = some false
  U_NoValue_NoAnswer : PySem.W.subIn K (.ref C_NoValue) (.ref C_NoAnswer) = some false
  U_NoNumber_NoSetting : PySem.W.subIn K (.ref C_NoNumber) (.ref C_NoSetting) = some false
  U_NoNumber_NoField : PySem.W.subIn K (.ref C_NoNumber) (.ref C_NoField) = some false
  U_NoNumber_NoValue : PySem.W.subIn K (.ref C_NoNumber) (.ref C_NoValue) = some false
  U_NoNumber_NoNumber : PySem.W.subIn K (.ref C_NoNumber) (.ref C_NoNumber) = some true
  U_NoNumber_NoStream : PySem.W.subIn K (.ref C_NoNumber) (.ref C_NoStream) = some false
  U_NoNumber_NoOctetList : PySem.W.subIn K (.ref C_NoNumber) (.ref C_NoOctetList) = some false
  U_NoNumber_NoLog : PySem.W.subIn K (.ref C_NoNumber) (.ref C_NoLog) = some false
  U_NoNumber_Held : PySem.W.subIn K (.ref C_NoNumber) (.ref C_Held) = some false
  U_NoNumber_TooGreat : PySem.W.subIn K (.ref C_NoNumber) (.ref C_TooGreat) = some false
  U_NoNumber_TooManyStates : PySem.W.subIn K (.ref C_NoNumber) (.ref C_TooManyStates) = some false
  U_NoNumber_NoOctets : PySem.W.subIn K (.ref C_NoNumber) (.ref C_NoOctets) = some false
  U_NoNumber_BadTable : PySem.W.subIn K (.ref C_NoNumber) (.ref C_BadTable) = some false
  U_NoNumber_BadBlock : PySem.W.subIn K (.ref C_NoNumber) (.ref C_BadBlock) = some false
  U_NoNumber_TooMany : PySem.W.subIn K (.ref C_NoNumber) (.ref C_TooMany) = some false
  U_NoNumber_BadAnswer : PySem.W.subIn K (.ref C_NoNumber) (.ref C_BadAnswer) = some false
  U_NoNumber_BadOrder : PySem.W.subIn K (.ref C_NoNumber) (.ref C_BadOrder) = some false
  U_NoNumber_NoAnswer : PySem.W.subIn K (.ref C_NoNumber) (.ref C_NoAnswer) = some false
  U_NoStream_NoSetting : PySem.W.subIn K (.ref C_NoStream) (.ref C_NoSetting) = some false
  U_NoStream_NoField : PySem.W.subIn K (.ref C_NoStream) (.ref C_NoField) = some false
  U_NoStream_NoValue : PySem.W.subIn K (.ref C_NoStream) (.ref C_NoValue) = some false
  U_NoStream_NoNumber : PySem.W.subIn K (.ref C_NoStream) (.ref C_NoNumber) = some false
  U_NoStream_NoStream : PySem.W.subIn K (.ref C_NoStream) (.ref C_NoStream) = some true
  U_NoStream_NoOctetList : PySem.W.subIn K (.ref C_NoStream) (.ref C_NoOctetList) = some false
  U_NoStream_NoLog : PySem.W.subIn K (.ref C_NoStream) (.ref C_NoLog) = some false
  U_NoStream_Held : PySem.W.subIn K (.ref C_NoStream) (.ref C_Held) = some false
  U_NoStream_TooGreat : PySem.W.subIn K (.ref C_NoStream) (.ref C_TooGreat) = some false
  U_NoStream_TooManyStates : PySem.W.subIn K (.ref C_NoStream) (.ref C_TooManyStates) = some false
  U_NoStream_NoOctets : PySem.W.subIn K (.ref C_NoStream) (.ref C_NoOctets) = some false
  U_NoStream_BadTable : PySem.W.subIn K (.ref C_NoStream) (.ref C_BadTable) = some false
  U_NoStream_BadBlock : PySem.W.subIn K (.ref C_NoStream) (.ref C_BadBlock) = some false
  U_NoStream_TooMany : PySem.W.subIn K (.ref C_NoStream) (.ref C_TooMany) = some false
  U_NoStream_BadAnswer : PySem.W.subIn K (.ref C_NoStream) (.ref C_BadAnswer) = some false
  U_NoStream_BadOrder : PySem.W.subIn K (.ref C_NoStream) (.ref C_BadOrder) = some false
  U_NoStream_NoAnswer : PySem.W.subIn K (.ref C_NoStream) (.ref C_NoAnswer) = some false
  U_NoOctetList_NoSetting : PySem.W.subIn K (.ref C_NoOctetList) (.ref C_NoSetting) = some false
  U_NoOctetList_NoField : PySem.W.subIn K (.ref C_NoOctetList) (.ref C_NoField) = some false
  U_NoOctetList_NoValue : PySem.W.subIn K (.ref C_NoOctetList) (.ref C_NoValue) = some false
  U_NoOctetList_NoNumber : PySem.W.subIn K (.ref C_NoOctetList) (.ref C_NoNumber) = some false
  U_NoOctetList_NoStream : PySem.W.subIn K (.ref C_NoOctetList) (.ref C_NoStream) = some false
  U_NoOctetList_NoOctetList : PySem.W.subIn K (.ref C_NoOctetList) (.ref C_NoOctetList) = some true
  U_NoOctetList_NoLog : PySem.W.subIn K (.ref C_NoOctetList) (.ref C_NoLog) = some false
  U_NoOctetList_Held : PySem.W.subIn K (.ref C_NoOctetList) (.ref C_Held) = some false
  U_NoOctetList_TooGreat : PySem.W.subIn K (.ref C_NoOctetList) (.ref C_TooGreat) = some false
  U_NoOctetList_TooManyStates : PySem.W.subIn K (.ref C_NoOctetList) (.ref C_TooManyStates) = some false
  U_NoOctetList_NoOctets : PySem.W.subIn K (.ref C_NoOctetList) (.ref C_NoOctets) = some false
  U_NoOctetList_BadTable : PySem.W.subIn K (.ref C_NoOctetList) (.ref C_BadTable) = some false
  U_NoOctetList_BadBlock : PySem.W.subIn K (.ref C_NoOctetList) (.ref C_BadBlock) = some false
  U_NoOctetList_TooMany : PySem.W.subIn K (.ref C_NoOctetList) (.ref C_TooMany) = some false
  U_NoOctetList_BadAnswer : PySem.W.subIn K (.ref C_NoOctetList) (.ref C_BadAnswer) = some false
  U_NoOctetList_BadOrder : PySem.W.subIn K (.ref C_NoOctetList) (.ref C_BadOrder) = some false
  U_NoOctetList_NoAnswer : PySem.W.subIn K (.ref C_NoOctetList) (.ref C_NoAnswer) = some false
  U_NoLog_NoSetting : PySem.W.subIn K (.ref C_NoLog) (.ref C_NoSetting) = some false
  U_NoLog_NoField : PySem.W.subIn K (.ref C_NoLog) (.ref C_NoField) = some false
  U_NoLog_NoValue : PySem.W.subIn K (.ref C_NoLog) (.ref C_NoValue) = some false
  U_NoLog_NoNumber : PySem.W.subIn K (.ref C_NoLog) (.ref C_NoNumber) = some false
  U_NoLog_NoStream : PySem.W.subIn K (.ref C_NoLog) (.ref C_NoStream) = some false
  U_NoLog_NoOctetList : PySem.W.subIn K (.ref C_NoLog) (.ref C_NoOctetList) = some false
  U_NoLog_NoLog : PySem.W.subIn K (.ref C_NoLog) (.ref C_NoLog) = some true
  U_NoLog_Held : PySem.W.subIn K (.ref C_NoLog) (.ref C_Held) = some false
  U_NoLog_TooGreat : PySem.W.subIn K (.ref C_NoLog) (.ref C_TooGreat) = some false
  U_NoLog_TooManyStates : PySem.W.subIn K (.ref C_NoLog) (.ref C_TooManyStates) = some false
  U_NoLog_NoOctets : PySem.W.subIn K (.ref C_NoLog) (.ref C_NoOctets) = some false
  U_NoLog_BadTable : PySem.W.subIn K (.ref C_NoLog) (.ref C_BadTable) = some false
  U_NoLog_BadBlock : PySem.W.subIn K (.ref C_NoLog) (.ref C_BadBlock) = some false
  U_NoLog_TooMany : PySem.W.subIn K (.ref C_NoLog) (.ref C_TooMany) = some false
  U_NoLog_BadAnswer : PySem.W.subIn K (.ref C_NoLog) (.ref C_BadAnswer) = some false
  U_NoLog_BadOrder : PySem.W.subIn K (.ref C_NoLog) (.ref C_BadOrder) = some false
  U_NoLog_NoAnswer : PySem.W.subIn K (.ref C_NoLog) (.ref C_NoAnswer) = some false
  U_Held_NoSetting : PySem.W.subIn K (.ref C_Held) (.ref C_NoSetting) = some false
  U_Held_NoField : PySem.W.subIn K (.ref C_Held) (.ref C_NoField) = some false
  U_Held_NoValue : PySem.W.subIn K (.ref C_Held) (.ref C_NoValue) = some false
  U_Held_NoNumber : PySem.W.subIn K (.ref C_Held) (.ref C_NoNumber) = some false
  U_Held_NoStream : PySem.W.subIn K (.ref C_Held) (.ref C_NoStream) = some false
  U_Held_NoOctetList : PySem.W.subIn K (.ref C_Held) (.ref C_NoOctetList) = some false
  U_Held_NoLog : PySem.W.subIn K (.ref C_Held) (.ref C_NoLog) = some false
  U_Held_Held : PySem.W.subIn K (.ref C_Held) (.ref C_Held) = some true
  U_Held_TooGreat : PySem.W.subIn K (.ref C_Held) (.ref C_TooGreat) = some false
  U_Held_TooManyStates : PySem.W.subIn K (.ref C_Held) (.ref C_TooManyStates) = some false
  U_Held_NoOctets : PySem.W.subIn K (.ref C_Held) (.ref C_NoOctets) = some false
  U_Held_BadTable : PySem.W.subIn K (.ref C_Held) (.ref C_BadTable) = some false
  U_Held_BadBlock : PySem.W.subIn K (.ref C_Held) (.ref C_BadBlock) = some false
  U_Held_TooMany : PySem.W.subIn K (.ref C_Held) (.ref C_TooMany) = some false
  U_Held_BadAnswer : PySem.W.subIn K (.ref C_Held) (.ref C_BadAnswer) = some false
  U_Held_BadOrder : PySem.W.subIn K (.ref C_Held) (.ref C_BadOrder) = some false
  U_Held_NoAnswer : PySem.W.subIn K (.ref C_Held) (.ref C_NoAnswer) = some false
  U_TooGreat_NoSetting : PySem.W.subIn K (.ref C_TooGreat) (.ref C_NoSetting) = some false
  U_TooGreat_NoField : PySem.W.subIn K (.ref C_TooGreat) (.ref C_NoField) = some false
  U_TooGreat_NoValue : PySem.W.subIn K (.ref C_TooGreat) (.ref C_NoValue) = some false
  U_TooGreat_NoNumber : PySem.W.subIn K (.ref C_TooGreat) (.ref C_NoNumber) = some false
  U_TooGreat_NoStream : PySem.W.subIn K (.ref C_TooGreat) (.ref C_NoStream) = some false
  U_TooGreat_NoOctetList : PySem.W.subIn K (.ref C_TooGreat) (.ref C_NoOctetList) = some false
  U_TooGreat_NoLog : PySem.W.subIn K (.ref C_TooGreat) (.ref C_NoLog) = some false
  U_TooGreat_Held : PySem.W.subIn K (.ref C_TooGreat) (.ref C_Held) = some false
  U_TooGreat_TooGreat : PySem.W.subIn K (.ref C_TooGreat) (.ref C_TooGreat) = some true
  U_TooGreat_TooManyStates : PySem.W.subIn K (.ref C_TooGreat) (.ref C_TooManyStates) = some false
  U_TooGreat_NoOctets : PySem.W.subIn K (.ref C_TooGreat) (.ref C_NoOctets) = some false
  U_TooGreat_BadTable : PySem.W.subIn K (.ref C_TooGreat) (.ref C_BadTable) = some false
  U_TooGreat_BadBlock : PySem.W.subIn K (.ref C_TooGreat) (.ref C_BadBlock) = some false
  U_TooGreat_TooMany : PySem.W.subIn K (.ref C_TooGreat) (.ref C_TooMany) = some false
  U_TooGreat_BadAnswer : PySem.W.subIn K (.ref C_TooGreat) (.ref C_BadAnswer) = some false
  U_TooGreat_BadOrder : PySem.W.subIn K (.ref C_TooGreat) (.ref C_BadOrder) = some false
  U_TooGreat_NoAnswer : PySem.W.subIn K (.ref C_TooGreat) (.ref C_NoAnswer) = some false
  U_TooManyStates_NoSetting : PySem.W.subIn K (.ref C_TooManyStates) (.ref C_NoSetting) = some false
  U_TooManyStates_NoField : PySem.W.subIn K (.ref C_TooManyStates) (.ref C_NoField) = some false
  U_TooManyStates_NoValue : PySem.W.subIn K (.ref C_TooManyStates) (.ref C_NoValue) = some false
  U_TooManyStates_NoNumber : PySem.W.subIn K (.ref C_TooManyStates) (.ref C_NoNumber) = some false
  U_TooManyStates_NoStream : PySem.W.subIn K (.ref C_TooManyStates) (.ref C_NoStream) = some false
  U_TooManyStates_NoOctetList : PySem.W.subIn K (.ref C_TooManyStates) (.ref C_NoOctetList) = some false
  U_TooManyStates_NoLog : PySem.W.subIn K (.ref C_TooManyStates) (.ref C_NoLog) = some false
  U_TooManyStates_Held : PySem.W.subIn K (.ref C_TooManyStates) (.ref C_Held) = some false
  U_TooManyStates_TooGreat : PySem.W.subIn K (.ref C_TooManyStates) (.ref C_TooGreat) = some false
  U_TooManyStates_TooManyStates : PySem.W.subIn K (.ref C_TooManyStates) (.ref C_TooManyStates) = some true
  U_TooManyStates_NoOctets : PySem.W.subIn K (.ref C_TooManyStates) (.ref C_NoOctets) = some false
  U_TooManyStates_BadTable : PySem.W.subIn K (.ref C_TooManyStates) (.ref C_BadTable) = some false
  U_TooManyStates_BadBlock : PySem.W.subIn K (.ref C_TooManyStates) (.ref C_BadBlock) = some false
  U_TooManyStates_TooMany : PySem.W.subIn K (.ref C_TooManyStates) (.ref C_TooMany) = some false
  U_TooManyStates_BadAnswer : PySem.W.subIn K (.ref C_TooManyStates) (.ref C_BadAnswer) = some false
  U_TooManyStates_BadOrder : PySem.W.subIn K (.ref C_TooManyStates) (.ref C_BadOrder) = some false
  U_TooManyStates_NoAnswer : PySem.W.subIn K (.ref C_TooManyStates) (.ref C_NoAnswer) = some false
  U_NoOctets_NoSetting : PySem.W.subIn K (.ref C_NoOctets) (.ref C_NoSetting) = some false
  U_NoOctets_NoField : PySem.W.subIn K (.ref C_NoOctets) (.ref C_NoField) = some false
  U_NoOctets_NoValue : PySem.W.subIn K (.ref C_NoOctets) (.ref C_NoValue) = some false
  U_NoOctets_NoNumber : PySem.W.subIn K (.ref C_NoOctets) (.ref C_NoNumber) = some false
  U_NoOctets_NoStream : PySem.W.subIn K (.ref C_NoOctets) (.ref C_NoStream) = some false
  U_NoOctets_NoOctetList : PySem.W.subIn K (.ref C_NoOctets) (.ref C_NoOctetList) = some false
  U_NoOctets_NoLog : PySem.W.subIn K (.ref C_NoOctets) (.ref C_NoLog) = some false
  U_NoOctets_Held : PySem.W.subIn K (.ref C_NoOctets) (.ref C_Held) = some false
  U_NoOctets_TooGreat : PySem.W.subIn K (.ref C_NoOctets) (.ref C_TooGreat) = some false
  U_NoOctets_TooManyStates : PySem.W.subIn K (.ref C_NoOctets) (.ref C_TooManyStates) = some false
  U_NoOctets_NoOctets : PySem.W.subIn K (.ref C_NoOctets) (.ref C_NoOctets) = some true
  U_NoOctets_BadTable : PySem.W.subIn K (.ref C_NoOctets) (.ref C_BadTable) = some false
  U_NoOctets_BadBlock : PySem.W.subIn K (.ref C_NoOctets) (.ref C_BadBlock) = some false
  U_NoOctets_TooMany : PySem.W.subIn K (.ref C_NoOctets) (.ref C_TooMany) = some false
  U_NoOctets_BadAnswer : PySem.W.subIn K (.ref C_NoOctets) (.ref C_BadAnswer) = some false
  U_NoOctets_BadOrder : PySem.W.subIn K (.ref C_NoOctets) (.ref C_BadOrder) = some false
  U_NoOctets_NoAnswer : PySem.W.subIn K (.ref C_NoOctets) (.ref C_NoAnswer) = some false
  U_BadTable_NoSetting : PySem.W.subIn K (.ref C_BadTable) (.ref C_NoSetting) = some false
  U_BadTable_NoField : PySem.W.subIn K (.ref C_BadTable) (.ref C_NoField) = some false
  U_BadTable_NoValue : PySem.W.subIn K (.ref C_BadTable) (.ref C_NoValue) = some false
  U_BadTable_NoNumber : PySem.W.subIn K (.ref C_BadTable) (.ref C_NoNumber) = some false
  U_BadTable_NoStream : PySem.W.subIn K (.ref C_BadTable) (.ref C_NoStream) = some false
  U_BadTable_NoOctetList : PySem.W.subIn K (.ref C_BadTable) (.ref C_NoOctetList) = some false
  U_BadTable_NoLog : PySem.W.subIn K (.ref C_BadTable) (.ref C_NoLog) = some false
  U_BadTable_Held : PySem.W.subIn K (.ref C_BadTable) (.ref C_Held) = some false
  U_BadTable_TooGreat : PySem.W.subIn K (.ref C_BadTable) (.ref C_TooGreat) = some false
  U_BadTable_TooManyStates : PySem.W.subIn K (.ref C_BadTable) (.ref C_TooManyStates) = some false
  U_BadTable_NoOctets : PySem.W.subIn K (.ref C_BadTable) (.ref C_NoOctets) = some false
  U_BadTable_BadTable : PySem.W.subIn K (.ref C_BadTable) (.ref C_BadTable) = some true
  U_BadTable_BadBlock : PySem.W.subIn K (.ref C_BadTable) (.ref C_BadBlock) = some false
  U_BadTable_TooMany : PySem.W.subIn K (.ref C_BadTable) (.ref C_TooMany) = some false
  U_BadTable_BadAnswer : PySem.W.subIn K (.ref C_BadTable) (.ref C_BadAnswer) = some false
  U_BadTable_BadOrder : PySem.W.subIn K (.ref C_BadTable) (.ref C_BadOrder) = some false
  U_BadTable_NoAnswer : PySem.W.subIn K (.ref C_BadTable) (.ref C_NoAnswer) = some false
  U_BadBlock_NoSetting : PySem.W.subIn K (.ref C_BadBlock) (.ref C_NoSetting) = some false
  U_BadBlock_NoField : PySem.W.subIn K (.ref C_BadBlock) (.ref C_NoField) = some false
  U_BadBlock_NoValue : PySem.W.subIn K (.ref C_BadBlock) (.ref C_NoValue) = some false
  U_BadBlock_NoNumber : PySem.W.subIn K (.ref C_BadBlock) (.ref C_NoNumber) = some false
  U_BadBlock_NoStream : PySem.W.subIn K (.ref C_BadBlock) (.ref C_NoStream) = some false
  U_BadBlock_NoOctetList : PySem.W.subIn K (.ref C_BadBlock) (.ref C_NoOctetList) = some false
  U_BadBlock_NoLog : PySem.W.subIn K (.ref C_BadBlock) (.ref C_NoLog) = some false
  U_BadBlock_Held : PySem.W.subIn K (.ref C_BadBlock) (.ref C_Held) = some false
  U_BadBlock_TooGreat : PySem.W.subIn K (.ref C_BadBlock) (.ref C_TooGreat) = some false
  U_BadBlock_TooManyStates : PySem.W.subIn K (.ref C_BadBlock) (.ref C_TooManyStates) = some false
  U_BadBlock_NoOctets : PySem.W.subIn K (.ref C_BadBlock) (.ref C_NoOctets) = some false
  U_BadBlock_BadTable : PySem.W.subIn K (.ref C_BadBlock) (.ref C_BadTable) = some false
  U_BadBlock_BadBlock : PySem.W.subIn K (.ref C_BadBlock) (.ref C_BadBlock) = some true
  U_BadBlock_TooMany : PySem.W.subIn K (.ref C_BadBlock) (.ref C_TooMany) = some false
  U_BadBlock_BadAnswer : PySem.W.subIn K (.ref C_BadBlock) (.ref C_BadAnswer) = some false
  U_BadBlock_BadOrder : PySem.W.subIn K (.ref C_BadBlock) (.ref C_BadOrder) = some false
  U_BadBlock_NoAnswer : PySem.W.subIn K (.ref C_BadBlock) (.ref C_NoAnswer) = some false
  U_TooMany_NoSetting : PySem.W.subIn K (.ref C_TooMany) (.ref C_NoSetting) = some false
  U_TooMany_NoField : PySem.W.subIn K (.ref C_TooMany) (.ref C_NoField) = some false
  U_TooMany_NoValue : PySem.W.subIn K (.ref C_TooMany) (.ref C_NoValue) = some false
  U_TooMany_NoNumber : PySem.W.subIn K (.ref C_TooMany) (.ref C_NoNumber) = some false
  U_TooMany_NoStream : PySem.W.subIn K (.ref C_TooMany) (.ref C_NoStream) = some false
  U_TooMany_NoOctetList : PySem.W.subIn K (.ref C_TooMany) (.ref C_NoOctetList) = some false
  U_TooMany_NoLog : PySem.W.subIn K (.ref C_TooMany) (.ref C_NoLog) = some false
  U_TooMany_Held : PySem.W.subIn K (.ref C_TooMany) (.ref C_Held) = some false
  U_TooMany_TooGreat : PySem.W.subIn K (.ref C_TooMany) (.ref C_TooGreat) = some false
  U_TooMany_TooManyStates : PySem.W.subIn K (.ref C_TooMany) (.ref C_TooManyStates) = some false
  U_TooMany_NoOctets : PySem.W.subIn K (.ref C_TooMany) (.ref C_NoOctets) = some false
  U_TooMany_BadTable : PySem.W.subIn K (.ref C_TooMany) (.ref C_BadTable) = some false
  U_TooMany_BadBlock : PySem.W.subIn K (.ref C_TooMany) (.ref C_BadBlock) = some false
  U_TooMany_TooMany : PySem.W.subIn K (.ref C_TooMany) (.ref C_TooMany) = some true
  U_TooMany_BadAnswer : PySem.W.subIn K (.ref C_TooMany) (.ref C_BadAnswer) = some false
  U_TooMany_BadOrder : PySem.W.subIn K (.ref C_TooMany) (.ref C_BadOrder) = some false
  U_TooMany_NoAnswer : PySem.W.subIn K (.ref C_TooMany) (.ref C_NoAnswer) = some false
  U_BadAnswer_NoSetting : PySem.W.subIn K (.ref C_BadAnswer) (.ref C_NoSetting) = some false
  U_BadAnswer_NoField : PySem.W.subIn K (.ref C_BadAnswer) (.ref C_NoField) = some false
  U_BadAnswer_NoValue : PySem.W.subIn K (.ref C_BadAnswer) (.ref C_NoValue) = some false
  U_BadAnswer_NoNumber : PySem.W.subIn K (.ref C_BadAnswer) (.ref C_NoNumber) = some false
  U_BadAnswer_NoStream : PySem.W.subIn K (.ref C_BadAnswer) (.ref C_NoStream) = some false
  U_BadAnswer_NoOctetList : PySem.W.subIn K (.ref C_BadAnswer) (.ref C_NoOctetList) = some false
  U_BadAnswer_NoLog : PySem.W.subIn K (.ref C_BadAnswer) (.ref C_NoLog) = some false
  U_BadAnswer_Held : PySem.W.subIn K (.ref C_BadAnswer) (.ref C_Held) = some false
  U_BadAnswer_TooGreat : PySem.W.subIn K (.ref C_BadAnswer) (.ref C_TooGreat) = some false
  U_BadAnswer_TooManyStates : PySem.W.subIn K (.ref C_BadAnswer) (.ref C_TooManyStates) = some false
  U_BadAnswer_NoOctets : PySem.W.subIn K (.ref C_BadAnswer) (.ref C_NoOctets) = some false
  U_BadAnswer_BadTable : PySem.W.subIn K (.ref C_BadAnswer) (.ref C_BadTable) = some false
  U_BadAnswer_BadBlock : PySem.W.subIn K (.ref C_BadAnswer) (.ref C_BadBlock) = some false
  U_BadAnswer_TooMany : PySem.W.subIn K (.ref C_BadAnswer) (.ref C_TooMany) = some false
  U_BadAnswer_BadAnswer : PySem.W.subIn K (.ref C_BadAnswer) (.ref C_BadAnswer) = some true
  U_BadAnswer_BadOrder : PySem.W.subIn K (.ref C_BadAnswer) (.ref C_BadOrder) = some false
  U_BadAnswer_NoAnswer : PySem.W.subIn K (.ref C_BadAnswer) (.ref C_NoAnswer) = some false
  U_BadOrder_NoSetting : PySem.W.subIn K (.ref C_BadOrder) (.ref C_NoSetting) = some false
  U_BadOrder_NoField : PySem.W.subIn K (.ref C_BadOrder) (.ref C_NoField) = some false
  U_BadOrder_NoValue : PySem.W.subIn K (.ref C_BadOrder) (.ref C_NoValue) = some false
  U_BadOrder_NoNumber : PySem.W.subIn K (.ref C_BadOrder) (.ref C_NoNumber) = some false
  U_BadOrder_NoStream : PySem.W.subIn K (.ref C_BadOrder) (.ref C_NoStream) = some false
  U_BadOrder_NoOctetList : PySem.W.subIn K (.ref C_BadOrder) (.ref C_NoOctetList) = some false
  U_BadOrder_NoLog : PySem.W.subIn K (.ref C_BadOrder) (.ref C_NoLog) = some false
  U_BadOrder_Held : PySem.W.subIn K (.ref C_BadOrder) (.ref C_Held) = some false
  U_BadOrder_TooGreat : PySem.W.subIn K (.ref C_BadOrder) (.ref C_TooGreat) = some false
  U_BadOrder_TooManyStates : PySem.W.subIn K (.ref C_BadOrder) (.ref C_TooManyStates) = some false
  U_BadOrder_NoOctets : PySem.W.subIn K (.ref C_BadOrder) (.ref C_NoOctets) = some false
  U_BadOrder_BadTable : PySem.W.subIn K (.ref C_BadOrder) (.ref C_BadTable) = some false
  U_BadOrder_BadBlock : PySem.W.subIn K (.ref C_BadOrder) (.ref C_BadBlock) = some false
  U_BadOrder_TooMany : PySem.W.subIn K (.ref C_BadOrder) (.ref C_TooMany) = some false
  U_BadOrder_BadAnswer : PySem.W.subIn K (.ref C_BadOrder) (.ref C_BadAnswer) = some false
  U_BadOrder_BadOrder : PySem.W.subIn K (.ref C_BadOrder) (.ref C_BadOrder) = some true
  U_BadOrder_NoAnswer : PySem.W.subIn K (.ref C_BadOrder) (.ref C_NoAnswer) = some false
  U_NoAnswer_NoSetting : PySem.W.subIn K (.ref C_NoAnswer) (.ref C_NoSetting) = some false
  U_NoAnswer_NoField : PySem.W.subIn K (.ref C_NoAnswer) (.ref C_NoField) = some false
  U_NoAnswer_NoValue : PySem.W.subIn K (.ref C_NoAnswer) (.ref C_NoValue) = some false
  U_NoAnswer_NoNumber : PySem.W.subIn K (.ref C_NoAnswer) (.ref C_NoNumber) = some false
  U_NoAnswer_NoStream : PySem.W.subIn K (.ref C_NoAnswer) (.ref C_NoStream) = some false
  U_NoAnswer_NoOctetList : PySem.W.subIn K (.ref C_NoAnswer) (.ref C_NoOctetList) = some false
  U_NoAnswer_NoLog : PySem.W.subIn K (.ref C_NoAnswer) (.ref C_NoLog) = some false
  U_NoAnswer_Held : PySem.W.subIn K (.ref C_NoAnswer) (.ref C_Held) = some false
  U_NoAnswer_TooGreat : PySem.W.subIn K (.ref C_NoAnswer) (.ref C_TooGreat) = some false
  U_NoAnswer_TooManyStates : PySem.W.subIn K (.ref C_NoAnswer) (.ref C_TooManyStates) = some false
  U_NoAnswer_NoOctets : PySem.W.subIn K (.ref C_NoAnswer) (.ref C_NoOctets) = some false
  U_NoAnswer_BadTable : PySem.W.subIn K (.ref C_NoAnswer) (.ref C_BadTable) = some false
  U_NoAnswer_BadBlock : PySem.W.subIn K (.ref C_NoAnswer) (.ref C_BadBlock) = some false
  U_NoAnswer_TooMany : PySem.W.subIn K (.ref C_NoAnswer) (.ref C_TooMany) = some false
  U_NoAnswer_BadAnswer : PySem.W.subIn K (.ref C_NoAnswer) (.ref C_BadAnswer) = some false
  U_NoAnswer_BadOrder : PySem.W.subIn K (.ref C_NoAnswer) (.ref C_BadOrder) = some false
  U_NoAnswer_NoAnswer : PySem.W.subIn K (.ref C_NoAnswer) (.ref C_NoAnswer) = some true
  X_BadAnswer : IsC K C_BadAnswer
  X_BadBlock : IsC K C_BadBlock
  X_BadOrder : IsC K C_BadOrder
  X_BadTable : IsC K C_BadTable
  X_Held : IsC K C_Held
  X_NoAnswer : IsC K C_NoAnswer
  X_NoField : IsC K C_NoField
  X_NoLog : IsC K C_NoLog
  X_NoNumber : IsC K C_NoNumber
  X_NoOctetList : IsC K C_NoOctetList
  X_NoOctets : IsC K C_NoOctets
  X_NoSetting : IsC K C_NoSetting
  X_NoStream : IsC K C_NoStream
  X_NoValue : IsC K C_NoValue
  X_TooGreat : IsC K C_TooGreat
  X_TooMany : IsC K C_TooMany
  X_TooManyStates : IsC K C_TooManyStates
  V_NoSetting : PySem.W.subIn K (.ref C_NoSetting) (.type "ValueError") = some true
  V_NoField : PySem.W.subIn K (.ref C_NoField) (.type "ValueError") = some true
  V_NoValue : PySem.W.subIn K (.ref C_NoValue) (.type "ValueError") = some true
  V_NoNumber : PySem.W.subIn K (.ref C_NoNumber) (.type "ValueError") = some true
  V_NoStream : PySem.W.subIn K (.ref C_NoStream) (.type "ValueError") = some true
  V_NoOctetList : PySem.W.subIn K (.ref C_NoOctetList) (.type "ValueError") = some true
  V_NoLog : PySem.W.subIn K (.ref C_NoLog) (.type "ValueError") = some true
  V_Held : PySem.W.subIn K (.ref C_Held) (.type "ValueError") = some true
  V_TooGreat : PySem.W.subIn K (.ref C_TooGreat) (.type "ValueError") = some true
  V_TooManyStates : PySem.W.subIn K (.ref C_TooManyStates) (.type "ValueError") = some true
  V_NoOctets : PySem.W.subIn K (.ref C_NoOctets) (.type "ValueError") = some true
  V_BadTable : PySem.W.subIn K (.ref C_BadTable) (.type "ValueError") = some true
  V_BadBlock : PySem.W.subIn K (.ref C_BadBlock) (.type "ValueError") = some true
  V_TooMany : PySem.W.subIn K (.ref C_TooMany) (.type "ValueError") = some true
  V_BadAnswer : PySem.W.subIn K (.ref C_BadAnswer) (.type "ValueError") = some true
  V_BadOrder : PySem.W.subIn K (.ref C_BadOrder) (.type "ValueError") = some true
  V_NoAnswer : PySem.W.subIn K (.ref C_NoAnswer) (.type "ValueError") = some true
  kb_NoOctets_init : KBinds K d_NoOctets_init ["self", "place"] ["place"] g2 g2
  kb_BadTable_init : KBinds K d_BadTable_init ["self", "number"] ["number"] g2 g2
  kb_BadBlock_init : KBinds K d_BadBlock_init ["self", "stream"] ["stream"] g2 g2
  kb_TooMany_init : KBinds K d_TooMany_init ["self", "stream"] ["stream"] g2 g2
  kb_BadAnswer_init : KBinds K d_BadAnswer_init ["self", "number"] ["number"] g2 g2
  kb_BadOrder_init : KBinds K d_BadOrder_init ["self", "number"] ["number"] g2 g2
  kb_NoAnswer_init : KBinds K d_NoAnswer_init ["self", "event"] ["event"] g2 g2
  t_NUMBER_MOST : Tok
  g_NUMBER_MOST : mg "NUMBER_MOST" = some (.int 9999 t_NUMBER_MOST)
  t_VALUE_MOST : Tok
  g_VALUE_MOST : mg "VALUE_MOST" = some (.int 40 t_VALUE_MOST)
  a_CHARACTERS : Addr
  g_CHARACTERS : mg "CHARACTERS" = some (.ref a_CHARACTERS)
  CHARACTERS_d : IDict K a_CHARACTERS chars
  z_ValueError : mg "ValueError" = none
  z_all : mg "all" = none
  z_bool : mg "bool" = none
  z_enumerate : mg "enumerate" = none
  z_int : mg "int" = none
  z_isinstance : mg "isinstance" = none
  z_len : mg "len" = none
  z_list : mg "list" = none
  z_max : mg "max" = none
  z_min : mg "min" = none
  z_ord : mg "ord" = none
  z_range : mg "range" = none
  z_repr : mg "repr" = none
  z_str : mg "str" = none
theorem sc_NoOctets_init : FnScope ["self", "place"] ["self", "place"] (defScope s_NoOctets_init) := ⟨rfl, rfl, rfl, by decide +kernel, rfl, by decide +kernel, by decide +kernel⟩
theorem sc_BadTable_init : FnScope ["self", "number"] ["self", "number"] (defScope s_BadTable_init) := ⟨rfl, rfl, rfl, by decide +kernel, rfl, by decide +kernel, by decide +kernel⟩
theorem sc_BadBlock_init : FnScope ["self", "stream"] ["self", "stream"] (defScope s_BadBlock_init) := ⟨rfl, rfl, rfl, by decide +kernel, rfl, by decide +kernel, by decide +kernel⟩
theorem sc_TooMany_init : FnScope ["self", "stream"] ["self", "stream"] (defScope s_TooMany_init) := ⟨rfl, rfl, rfl, by decide +kernel, rfl, by decide +kernel, by decide +kernel⟩
theorem sc_BadAnswer_init : FnScope ["self", "number"] ["self", "number"] (defScope s_BadAnswer_init) := ⟨rfl, rfl, rfl, by decide +kernel, rfl, by decide +kernel, by decide +kernel⟩
theorem sc_BadOrder_init : FnScope ["self", "number"] ["self", "number"] (defScope s_BadOrder_init) := ⟨rfl, rfl, rfl, by decide +kernel, rfl, by decide +kernel, by decide +kernel⟩
theorem sc_NoAnswer_init : FnScope ["self", "event"] ["self", "event"] (defScope s_NoAnswer_init) := ⟨rfl, rfl, rfl, by decide +kernel, rfl, by decide +kernel, by decide +kernel⟩
theorem sc_is_between : FnScope ["thing", "least", "most"] ["thing", "least", "most"] (defScope s_is_between) := ⟨rfl, rfl, rfl, by decide +kernel, rfl, by decide +kernel, by decide +kernel⟩
theorem sc_is_number : FnScope ["thing"] ["thing"] (defScope s_is_number) := ⟨rfl, rfl, rfl, by decide +kernel, rfl, by decide +kernel, by decide +kernel⟩
theorem sc_is_text : FnScope ["thing", "least", "most", "character"] ["thing", "least", "most"] (defScope s_is_text) := ⟨rfl, rfl, rfl, by decide +kernel, rfl, by decide +kernel, by decide +kernel⟩
theorem sc_is_value : FnScope ["thing"] ["thing"] (defScope s_is_value) := ⟨rfl, rfl, rfl, by decide +kernel, rfl, by decide +kernel, by decide +kernel⟩
theorem sc_check_prefix : FnScope ["prefix", "mark"] ["prefix", "mark"] (defScope s_check_prefix) := ⟨rfl, rfl, rfl, by decide +kernel, rfl, by decide +kernel, by decide +kernel⟩
theorem sc_prefix_bits : FnScope ["prefix"] ["prefix"] (defScope s_prefix_bits) := ⟨rfl, rfl, rfl, by decide +kernel, rfl, by decide +kernel, by decide +kernel⟩
theorem sc_number_octets : FnScope ["number", "prefix", "mark", "bits", "octets", "rest"] ["number", "prefix", "mark"] (defScope s_number_octets) := ⟨rfl, rfl, rfl, by decide +kernel, rfl, by decide +kernel, by decide +kernel⟩
theorem sc_string_octets : FnScope ["text", "prefix", "mark", "character"] ["text", "prefix", "mark"] (defScope s_string_octets) := ⟨rfl, rfl, rfl, by decide +kernel, rfl, by decide +kernel, by decide +kernel⟩
theorem sc_law_open : FnScope ["script", "cells", "k", "cell"] ["script"] (defScope s_law_open) := ⟨rfl, rfl, rfl, by decide +kernel, rfl, by decide +kernel, by decide +kernel⟩
theorem sc_law_spread : FnScope ["cell", "at", "primes", "one", "two", "three"] ["cell", "at"] (defScope s_law_spread) := ⟨rfl, rfl, rfl, by decide +kernel, rfl, by decide +kernel, by decide +kernel⟩
theorem sc_law_take : FnScope ["pen", "amount", "at", "cell", "found"] ["pen", "amount"] (defScope s_law_take) := ⟨rfl, rfl, rfl, by decide +kernel, rfl, by decide +kernel, by decide +kernel⟩
theorem sc_law_one_of : FnScope ["pen", "some"] ["pen", "some"] (defScope s_law_one_of) := ⟨rfl, rfl, rfl, by decide +kernel, rfl, by decide +kernel, by decide +kernel⟩
theorem sc_law_signs : FnScope [] [] (defScope s_law_signs) := ⟨rfl, rfl, rfl, by decide +kernel, rfl, by decide +kernel, by decide +kernel⟩
theorem sc_law_draw_text : FnScope ["pen", "least", "most", "size", "k"] ["pen", "least", "most"] (defScope s_law_draw_text) := ⟨rfl, rfl, rfl, by decide +kernel, rfl, by decide +kernel, by decide +kernel⟩
theorem sc_law_draw_number : FnScope ["pen", "near", "some"] ["pen"] (defScope s_law_draw_number) := ⟨rfl, rfl, rfl, by decide +kernel, rfl, by decide +kernel, by decide +kernel⟩
theorem sc_law_wrong_text : FnScope ["pen", "some", "others", "good", "spot", "bad"] ["pen"] (defScope s_law_wrong_text) := ⟨rfl, rfl, rfl, by decide +kernel, rfl, by decide +kernel, by decide +kernel⟩
theorem sc_law_is_refused : FnScope ["way", "value", "prefix", "mark", "caught", "told", "e"] ["way", "value", "prefix", "mark"] (defScope s_law_is_refused) := ⟨rfl, rfl, rfl, by decide +kernel, rfl, by decide +kernel, by decide +kernel⟩
theorem sc_law_made_right : FnScope ["pen", "part", "errors", "one", "k", "some", "j", "told"] ["pen"] (defScope s_law_made_right) := ⟨rfl, rfl, rfl, by decide +kernel, rfl, by decide +kernel, by decide +kernel⟩
theorem sc_law : FnScope ["script", "pen", "turn", "way", "good", "odd", "bad", "unit", "bit", "middle", "wrong", "one", "some", "k", "seen"] ["script"] (defScope s_law) := ⟨rfl, rfl, rfl, by decide +kernel, rfl, by decide +kernel, by decide +kernel⟩
section
variable {P : Program} {w : World} {K : PySem.W.Frag} {mg : Str → Option Value} {base : Heap}
theorem ok_is_between (T : Txt K mg) : FnOk P w K mg base CX0 1 T.f_is_between T.d_is_between ["thing", "least", "most"] (sp_is_between K) := by
  refine T.F_is_between.ok sc_is_between (fun vs H Q E h => ?_) (fun cdv A outer s H vs Q E hr h => ?_)
  · obtain ⟨v, t, a, b, rfl, _⟩ := h
    rfl
  · obtain ⟨v, t, a, b, rfl, k, q⟩ := h
    refine ⟨_, (pss_one (ps_ret (pe_and (pe_callB call_isi rfl T.z_isinstance boot_isinstance (pa_cons (pv 0) (pa_cons (pe_bltn (v := .ty "int") rfl T.z_int boot_int rfl) pa_nil))) (pe_and (pe_not (pe_callB call_isi rfl T.z_isinstance boot_isinstance (pa_cons (pv 0) (pa_cons (pe_bltn (v := .ty "bool") rfl T.z_bool boot_bool rfl) pa_nil)))) (pe_one (pe_chain op_le op_le (pv 1) (pv 0) (pv 2))))))), ?_⟩
    refine ⟨_, rfl, _, _, _, _, _, rfl, .ty _, k.ty, k.kit, _, rfl, ifb (fun e => ?_) (fun e => ?_)⟩
    · refine ⟨_, rfl, _, _, _, _, _, rfl, .ty _, k.ty, k.kit, _, rfl, _, rfl, ifb (fun e2 => ?_) (fun e2 => ?_)⟩
      · have ei : t = "int" := by
          cases k <;> first | rfl | (exfalso; revert e e2; decide)
        cases k <;> first | (exact absurd ei (by decide)) | skip
        rename_i i
        refine ⟨_, rfl, _, rfl, _, _, rfl, rfl, _, rfl, ifb (fun e3 => ?_) (fun e3 => ?_)⟩
        · exact ⟨_, rfl, _, _, rfl, rfl, Q_bl q (by show (decide _ && decide _) = _; rw [e3]; rfl)⟩
        · exact Q_bl q (by show (decide _ && decide _) = _; rw [e3]; rfl)
      · refine Q_bl q ?_
        cases k <;> first | rfl | (exfalso; revert e e2; decide)
    · refine Q_bl q ?_
      cases k <;> first | rfl | (exfalso; revert e; decide)

theorem ok_is_number (T : Txt K mg) : FnOk P w K mg base CX0 2 T.f_is_number T.d_is_number ["thing"] (sp_is_number K) := by
  refine T.F_is_number.ok sc_is_number (fun vs H Q E h => ?_) (fun cdv A outer s H vs Q E hr h => ?_)
  · obtain ⟨v, t, rfl, _⟩ := h
    rfl
  · obtain ⟨v, t, rfl, k, q⟩ := h
    refine ⟨_, (pss_one (ps_ret (pe_call (ok_is_between T) (hr.mono (by decide)) rfl T.g_is_between T.F_is_between.kp T.b_is_between .nil pass0 (pa_cons (pv 0) (pa_cons pe_int (pa_cons (pe_glob (v := .int 9999) rfl T.g_NUMBER_MOST ⟨_, rfl⟩) pa_nil)))))), ?_⟩
    exact ⟨_, rfl, v, t, 0, 9999, rfl, k, q⟩
theorem ok_is_text (T : Txt K mg) : FnOk P w K mg base CX0 1 T.f_is_text T.d_is_text ["thing", "least", "most"] (sp_is_text K) := by
  refine T.F_is_text.ok sc_is_text (fun vs H Q E h => ?_) (fun cdv A outer s H vs Q E hr h => ?_)
  · obtain ⟨v, t, a, b, rfl, _⟩ := h
    rfl
  · obtain ⟨v, t, a, b, rfl, k, hz, q⟩ := h
    refine ⟨_, (pss_cons (ps_if (PW.pt (pw_or (pt_not (pt_val (pe_callB call_isi rfl T.z_isinstance boot_isinstance (pa_cons (pv 0) (pa_cons (pe_bltn (v := .ty "str") rfl T.z_str boot_str rfl) pa_nil))))) (pw_or1 (pt_not (pt_chain op_le op_le (pv 1) (pe_callB call_len rfl T.z_len boot_len (pa_cons (pv 0) pa_nil)) (pv 2)))))) (pss_one (ps_ret pe_bl)) pss_nil)
      (pss_one (ps_ret (pe_callB (cr_all rfl) rfl T.z_all boot_all (pa_cons (pe_lc (own := [("character", 3)]) (g := (gName 3)) (tt := tYes)  rfl sc_is_text.nd (pi_str (pv 0)) (blkOk_by (own := [("character", 3)]) (N := ["thing", "least", "most", "character"]) (sc := defScope s_is_text) (by decide +kernel)) (fun _ _ _ _ _ => (pg_name (i := 3) sc_is_text.nd rfl (Or.inl rfl))) (fun _ _ _ _ _ => pts_nil) (fun _ _ _ _ _ => (pe_cmpR (op_in_kdI T.CHARACTERS_d) (pe_callB call_ord rfl T.z_ord boot_ord (pa_cons (pv 3) pa_nil)) (pe_glob (v := .ref T.a_CHARACTERS) rfl T.g_CHARACTERS rfl) rfl))) pa_nil))))), ?_⟩
    refine ⟨_, rfl, _, _, _, _, _, rfl, .ty _, k.ty, k.kit, _, rfl, ?_⟩
    refine ifb (fun e => ?_) (fun e => ?_)
    · refine iteT ?_
      refine Q_bl (q H (Same.refl _)) ?_
      cases k <;> first | rfl | (exfalso; revert e; decide)
    · cases k <;> first | (exfalso; revert e; decide) | skip
      rename_i x
      have hx := hz x rfl
      refine ⟨_, rfl, _, rfl, _, _, rfl, ⟨len100 hx, rfl⟩, _, _, rfl, rfl, _, rfl, ifb (fun e2 => ?_) (fun e2 => ?_)⟩
      · refine ⟨_, rfl, _, _, rfl, rfl, _, rfl, ?_⟩
        refine ifb (fun e3 => ?_) (fun e3 => ?_)
        · refine Q_bl (q H (Same.refl _)) ?_
          show (_ && _ && _) = false
          have e3' : decide ((x.length : Int) ≤ b) = false := by simpa using e3
          rw [e3', Bool.and_false, Bool.false_and]
        · have e3' : decide ((x.length : Int) ≤ b) = true := by simpa using e3
          refine ⟨_, rfl, _, rfl, fun D hD => ?_⟩
          refine lc_map walk_str (fun i => V.bl (isChar (x.cps.toList.getD i 0))) (by show x.length ≤ 10000000; omega) hD (fun _ _ => True.intro) ?_ ?_
          · rintro i y H' H'' Q' Z hi s1 ⟨rfl, c, hc, rfl⟩ q'
            refine ⟨rfl, yesI ?_⟩
            refine ⟨_, rfl, _, rfl, rfl, _, rfl, rfl, ?_⟩
            have e4 : x.cps.toList.getD i 0 = c := getD_of 0 (cps_at hc)
            have e5 : (⟨#[c]⟩ : Str).cps.getD 0 0 = c := rfl
            have := q' H'' (Same.refl _)
            rw [e4] at this
            rw [e5, valI_chars]
            cases hcc : isChar c
            · rw [hcc] at this; exact this
            · rw [hcc] at this; exact this
          · intro H' s1 hD'
            refine ⟨_, x.cps.toList.map isChar, rfl, .inl (.inl ?_), ?_⟩
            · rw [hD']
              have : (List.range x.cps.size).map (fun i => V.bl (isChar (x.cps.toList.getD i 0))) = (x.cps.toList.map isChar).map V.bl := by
                rw [List.map_map]
                exact range_map x.cps.toList (fun c => V.bl (isChar c)) 0
              rw [this]
            · refine Q_bl (q H' s1) ?_
              show (_ && _ && _) = _
              rw [e2, e3']
              simp [List.all_map]
      · refine ⟨_, rfl, ?_⟩
        refine iteT ?_
        refine Q_bl (q H (Same.refl _)) ?_
        show (_ && _ && _) = false
        rw [e2, Bool.false_and, Bool.false_and]
theorem ok_is_value (T : Txt K mg) : FnOk P w K mg base CX0 2 T.f_is_value T.d_is_value ["thing"] (sp_is_value K) := by
  refine T.F_is_value.ok sc_is_value (fun vs H Q E h => ?_) (fun cdv A outer s H vs Q E hr h => ?_)
  · obtain ⟨v, t, rfl, _⟩ := h
    rfl
  · obtain ⟨v, t, rfl, k, hz, q⟩ := h
    refine ⟨_, (pss_one (ps_ret (pe_call (ok_is_text T) (hr.mono (by decide)) rfl T.g_is_text T.F_is_text.kp T.b_is_text .nil pass0 (pa_cons (pv 0) (pa_cons pe_int (pa_cons (pe_glob (v := .int 40) rfl T.g_VALUE_MOST ⟨_, rfl⟩) pa_nil)))))), ?_⟩
    exact ⟨_, rfl, v, t, 0, 40, rfl, k, hz, q⟩
theorem ok_prefix_bits (T : Txt K mg) : FnOk P w K mg base CX0 1 T.f_prefix_bits T.d_prefix_bits ["prefix"] sp_prefix_bits := by
  refine T.F_prefix_bits.ok sc_prefix_bits (fun vs H Q E h => ?_) (fun cdv A outer s H vs Q E hr h => ?_)
  · obtain ⟨b, rfl, _⟩ := h
    rfl
  · obtain ⟨b, rfl, hb, q⟩ := h
    refine ⟨_, (pss_one (ps_ret (pe_op op_sub (pe_op op_shl pe_int (pv 0)) pe_int))), ?_⟩
    refine ⟨_, rfl, _, _, rfl, rfl, ⟨by omega, by omega, by decide⟩, _, _, rfl, rfl, ?_⟩
    refine Q_int q ?_
    rw [Int.toNat_natCast, Int.one_mul]

theorem ok_check_prefix (T : Txt K mg) : FnOk P w K mg base (CX P w) 2 T.f_check_prefix T.d_check_prefix ["prefix", "mark"] (sp_check_any K T.C_NoValue) := by
  refine T.F_check_prefix.okX sc_check_prefix (fun vs H Q E h => ?_) (fun cdv A outer s H vs Q E hr h => ?_)
  · obtain ⟨v, u, d, e, rfl, _⟩ := h
    rfl
  · obtain ⟨v, u, d, e, rfl, hv, hu, q1, q2⟩ := h
    refine ⟨_, (pss_cons (ps_if (pt_not (pt_val (pe_call (ok_is_between T) (hr.mono (by decide)) rfl T.g_is_between T.F_is_between.kp T.b_is_between .nil pass0 (pa_cons (pv 0) (pa_cons pe_int (pa_cons pe_int pa_nil)))))) (pss_one (ps_raise rfl (takes_of rfl rfl rfl rfl) (pmk_own PySem.F.excBase_ValueError T.P_NoValue.x_ T.P_NoValue.g T.P_NoValue.k_ (raises_own T.P_NoValue.b_ T.P_NoValue.t_) rfl))) pss_nil)
      (pss_one (ps_if (PW.pt (pw_or (pt_not (pt_val (pe_call (ok_is_between T) (hr.mono (by decide)) rfl T.g_is_between T.F_is_between.kp T.b_is_between .nil pass0 (pa_cons (pv 1) (pa_cons pe_int (pa_cons pe_int pa_nil)))))) (pw_or1 (pt_cmpR op_ne (pe_op op_and (pv 1) (pe_call (ok_prefix_bits T) (hr.mono (by decide)) rfl T.g_prefix_bits T.F_prefix_bits.kp T.b_prefix_bits .nil pass0 (pa_cons (pv 0) pa_nil))) pe_int (nomark _))))) (pss_one (ps_raise rfl (takes_of rfl rfl rfl rfl) (pmk_own PySem.F.excBase_ValueError T.P_NoValue.x_ T.P_NoValue.g T.P_NoValue.k_ (raises_own T.P_NoValue.b_ T.P_NoValue.t_) rfl))) pss_nil))), ?_⟩
    refine ⟨_, rfl, v, _, 1, 8, rfl, hv.kind, _, rfl, ifb (fun e1 => ?_) (fun e1 => ?_)⟩
    · have e1' := nb e1
      rw [hv.btw] at e1'
      exact q2 (by unfold okPre; rw [e1']; rfl)
    have e1' := nb' e1
    rw [hv.btw] at e1'
    refine ⟨_, rfl, u, _, 0, 255, rfl, hu.kind, _, rfl, ifb (fun e2 => ?_) (fun e2 => ?_)⟩
    · have e2' := nb e2
      rw [hu.btw] at e2'
      exact iteT (q2 (by unfold okPre; rw [e1', e2']; rfl))
    have e2' := nb' e2
    rw [hu.btw] at e2'
    obtain ⟨b, rfl, b0, b1⟩ := btw_int e1'
    obtain ⟨m, rfl, m0, m1⟩ := btw_int e2'
    obtain ⟨b, rfl⟩ : ∃ k : Nat, b = (k : Int) := ⟨b.toNat, by omega⟩
    have := hv.sInt; subst this
    have := hu.sInt; subst this
    refine ⟨_, rfl, _, rfl, b, rfl, by omega, _, _, rfl, rfl, rfl, _, rfl, ?_⟩
    have el : landOk (.int (b : Nat)) (.int m) = decide (Builtin.bitAnd m ((2 ^ b - 1 : Nat) : Int) = 0) := by
      show decide _ = _
      rw [Int.toNat_natCast]
    have ed : (!decide (V.int (Builtin.bitAnd m ((2 : Int) ^ b - 1)) = V.int 0)) = !landOk (.int (b : Nat)) (.int m) := by
      rw [el, bits_cast]
      congr 1
      exact decide_eq_decide.mpr ⟨fun h => by injection h, fun h => by rw [h]⟩
    refine ifb (fun e3 => ?_) (fun e3 => ?_)
    · have e3' : landOk (.int (b : Nat)) (.int m) = false := nb (ed.symm.trans e3)
      exact q2 (by unfold okPre; rw [e1', e2', e3']; rfl)
    · have e3' : landOk (.int (b : Nat)) (.int m) = true := nb' (ed.symm.trans e3)
      exact q1 (by unfold okPre; rw [e1', e2', e3']; rfl)
theorem ok_number_octets (T : Txt K mg) : FnOk P w K mg base (CX P w) 3 T.f_number_octets T.d_number_octets ["number", "prefix", "mark"] (sp_num_any K T.C_NoValue) := by
  refine T.F_number_octets.okX sc_number_octets (fun vs H Q E h => ?_) (fun cdv A outer s H vs Q E hr h => ?_)
  · obtain ⟨x, v, u, n, d, e, rfl, _⟩ := h
    rfl
  · obtain ⟨x, v, u, dn, d, e, rfl, hx, hv, hu, q1, q2⟩ := h
    refine ⟨_, (pss_cons (ps_if (pt_not (pt_val (pe_call (ok_is_number T) (hr.mono (by decide)) rfl T.g_is_number T.F_is_number.kp T.b_is_number .nil pass0 (pa_cons (pv 0) pa_nil)))) (pss_one (ps_raise rfl (takes_of rfl rfl rfl rfl) (pmk_own PySem.F.excBase_ValueError T.P_NoValue.x_ T.P_NoValue.g T.P_NoValue.k_ (raises_own T.P_NoValue.b_ T.P_NoValue.t_) rfl))) pss_nil)
      (pss_cons (ps_expr (pe_call (ok_check_prefix T) (hr.mono (by decide)) rfl T.g_check_prefix T.F_check_prefix.kp T.b_check_prefix .nil (passes_call (takes_of rfl rfl rfl rfl) (fun _ _ _ _ h => h)) (pa_cons (pv 1) (pa_cons (pv 2) pa_nil))))
      (pss_cons (ps_set (i := 3) sc_number_octets.nd rfl (Or.inl rfl) (pe_call (ok_prefix_bits T) (hr.mono (by decide)) rfl T.g_prefix_bits T.F_prefix_bits.kp T.b_prefix_bits .nil pass0 (pa_cons (pv 1) pa_nil)))
      (pss_cons (ps_if (pt_cmpR op_lt (pv 0) (pv 3) (nomark _)) (pss_one (ps_ret (pe_lst (pa_cons (pe_op op_add (pv 2) (pv 0)) pa_nil)))) pss_nil)
      (pss_cons (ps_set (i := 4) sc_number_octets.nd rfl (Or.inl rfl) (pe_lst (pa_cons (pe_op op_add (pv 2) (pv 3)) pa_nil)))
      (pss_cons (ps_set (i := 5) sc_number_octets.nd rfl (Or.inl rfl) (pe_op op_sub (pv 0) (pv 3)))
      (pss_cons (ps_while (passes_of rfl) (pt_cmpR op_ge (pv 5) pe_int (nomark _))
        (pss_cons (ps_expr (pe_bm PySem.F.plainAttrs_list PySem.F.slot_list_append PySem.F.type_list_append mt_append (pv 4) (pa_cons (pe_op op_add pe_int (pe_op op_and (pv 5) pe_int)) pa_nil)))
      (pss_one (ps_set (i := 5) sc_number_octets.nd rfl (Or.inl rfl) (pe_op op_shr (pv 5) pe_int)))))
      (pss_cons (ps_expr (pe_bm PySem.F.plainAttrs_list PySem.F.slot_list_append PySem.F.type_list_append mt_append (pv 4) (pa_cons (pv 5) pa_nil)))
      (pss_one (ps_ret (pv 4))))))))))), ?_⟩
    refine ⟨_, rfl, x, _, rfl, hx.kind, _, rfl, ifb (fun e1 => ?_) (fun e1 => ?_)⟩
    · have e1' := nb e1
      rw [hx.btw] at e1'
      exact q2 (by unfold okNum; rw [e1']; rfl)
    have e1' := nb' e1
    rw [hx.btw] at e1'
    refine ⟨_, rfl, _, rfl, v, u, d, e, rfl, hv, hu, fun ok => ?_, fun no => q2 (by unfold okNum; rw [e1', no]; rfl)⟩
    obtain ⟨n, rfl, n0, n1⟩ := btw_int e1'
    obtain ⟨n, rfl⟩ : ∃ k : Nat, n = (k : Int) := ⟨n.toNat, by omega⟩
    obtain ⟨b, m, rfl, rfl, M⟩ := mark_of ok
    have := hx.sInt; subst this
    have := hv.sInt; subst this
    have := hu.sInt; subst this
    obtain ⟨hb1, hb8, hm, hz⟩ := id M
    have hn : n ≤ 9999 := by omega
    have q := q1 n b m rfl rfl rfl hn M
    refine ⟨_, rfl, b, rfl, by omega, ?_⟩
    refine ⟨_, rfl, _, rfl, _, _, rfl, rfl, _, rfl, ?_⟩
    have hp := pow_pos2 b
    have hp8 := pow_le8 hb8
    have eb := bits_cast b
    by_cases c : n < 2 ^ b - 1
    · refine ifT (decide_eq_true (by rw [eb]; omega)) ?_
      refine ⟨_, rfl, _, rfl, _, _, rfl, rfl, (by show 1 ≤ sizeLine; rw [sizeLine_eq]; omega), fun p hp' => ?_⟩
      refine q p _ hp' (Same.new hp') ?_
      rw [upd_same]
      unfold numOct
      rw [if_pos c]
      rfl
    · refine ifF (decide_eq_false (by rw [eb]; omega)) ?_
      refine ⟨_, rfl, _, rfl, _, _, rfl, rfl, (by show 1 ≤ sizeLine; rw [sizeLine_eq]; omega), fun p hp' => ?_⟩
      refine ⟨_, rfl, _, rfl, _, _, rfl, rfl, ?_⟩
      have eN : numOct n b m = [((m + (2 ^ b - 1) : Nat) : Int)] ++ restOct (n - (2 ^ b - 1)) := by
        unfold numOct
        rw [if_neg c]
        rfl
      have hl := numOct_len n b m
      refine ⟨fun k σ H' => ∃ acc : List Int, σ = [some (.int (n : Nat)), some (.int (b : Nat)), some (.int (m : Nat)), some (.int (2 ^ b - 1)), some (.ref p), some (.int (k : Nat))] ∧ Same H H' ∧ H' p = some (.lst (acc.map V.int)) ∧ acc ++ restOct k = numOct n b m,
        ⟨n - (2 ^ b - 1), [((m + (2 ^ b - 1) : Nat) : Int)], ?_, Same.new hp', ?_, eN.symm⟩, ?_⟩
      · have e : ((n : Int) - (2 ^ b - 1)) = ((n - (2 ^ b - 1) : Nat) : Int) := by rw [eb]; omega
        rw [← e]
        rfl
      · rw [upd_same, eb]
        rfl
      · rintro k σ H' ⟨acc, rfl, s1, hl', ha⟩
        refine ⟨_, rfl, _, _, rfl, rfl, _, rfl, ?_⟩
        by_cases ck : k < 128
        · refine ifF (decide_eq_false (by omega)) ?_
          refine ⟨_, rfl, .inl ⟨rfl, _, SqL.of hl'⟩, _, rfl, p, _, _, rfl, rfl, hl', ?_, ?_⟩
          · rw [List.length_map, sizeLine_eq]
            have : acc.length ≤ (numOct n b m).length := by rw [← ha]; simp
            omega
          · refine ⟨_, rfl, ?_⟩
            refine q p _ hp' (s1.put hp') ?_
            rw [upd_same, ← ha, restOct_lt ck, List.map_append]
            rfl
        · refine ifT (decide_eq_true (by omega)) ?_
          refine ⟨fun σ' H'' => ∃ acc : List Int, σ' = [some (.int (n : Nat)), some (.int (b : Nat)), some (.int (m : Nat)), some (.int (2 ^ b - 1)), some (.ref p), some (.int ((k / 128 : Nat) : Int))] ∧ Same H H'' ∧ H'' p = some (.lst (acc.map V.int)) ∧ acc ++ restOct (k / 128) = numOct n b m,
            fun σ' H'' h => ⟨k / 128, by omega, h⟩, ?_⟩
          refine ⟨_, rfl, .inl ⟨rfl, _, SqL.of hl'⟩, _, rfl, _, _, rfl, rfl, _, _, rfl, rfl, p, _, _, rfl, rfl, hl', ?_, ?_⟩
          · rw [List.length_map, sizeLine_eq]
            have : acc.length ≤ (numOct n b m).length := by rw [← ha]; simp
            omega
          · refine ⟨_, rfl, _, _, rfl, rfl, (by show (0 : Int) ≤ 7; decide), ?_⟩
            refine ⟨acc ++ [128 + (k : Int) % 128], ?_, s1.put hp', ?_, ?_⟩
            · have e : ((k : Int) / 2 ^ (7 : Int).toNat) = ((k / 128 : Nat) : Int) := by
                show (k : Int) / 128 = _
                omega
              rw [← e]
              rfl
            · rw [upd_same, and127 (by omega), List.map_append]
              rfl
            · rw [← ha, restOct_ge ck, List.append_assoc]
              rfl
theorem ok_string_octets (T : Txt K mg) : FnOk P w K mg base (CX P w) 4 T.f_string_octets T.d_string_octets ["text", "prefix", "mark"] (sp_str_any K T.C_NoValue) := by
  refine T.F_string_octets.okX sc_string_octets (fun vs H Q E h => ?_) (fun cdv A outer s H vs Q E hr h => ?_)
  · obtain ⟨x, v, u, n, d, e, rfl, _⟩ := h
    rfl
  · obtain ⟨y, v, u, dn, d, e, rfl, hy, hw, hv, hu, q1, q2⟩ := h
    refine ⟨_, (pss_cons (ps_if (pt_not (pt_val (pe_call (ok_is_value T) (hr.mono (by decide)) rfl T.g_is_value T.F_is_value.kp T.b_is_value .nil pass0 (pa_cons (pv 0) pa_nil)))) (pss_one (ps_raise rfl (takes_of rfl rfl rfl rfl) (pmk_own PySem.F.excBase_ValueError T.P_NoValue.x_ T.P_NoValue.g T.P_NoValue.k_ (raises_own T.P_NoValue.b_ T.P_NoValue.t_) rfl))) pss_nil)
      (pss_one (ps_ret (pe_op op_cat (pe_call (ok_number_octets T) (hr.mono (by decide)) rfl T.g_number_octets T.F_number_octets.kp T.b_number_octets .nil (passes_call (takes_of rfl rfl rfl rfl) (fun _ _ _ _ h => h)) (pa_cons (pe_callB call_len rfl T.z_len boot_len (pa_cons (pv 0) pa_nil)) (pa_cons (pv 1) (pa_cons (pv 2) pa_nil)))) (pe_lc (own := [("character", 3)]) (g := (gName 3)) (tt := tYes)  rfl sc_string_octets.nd (pi_str (pv 0)) (blkOk_by (own := [("character", 3)]) (N := ["text", "prefix", "mark", "character"]) (sc := defScope s_string_octets) (by decide +kernel)) (fun _ _ _ _ _ => (pg_name (i := 3) sc_string_octets.nd rfl (Or.inl rfl))) (fun _ _ _ _ _ => pts_nil) (fun _ _ _ _ _ => (pe_callB call_ord rfl T.z_ord boot_ord (pa_cons (pv 3) pa_nil)))))))), ?_⟩
    refine ⟨_, rfl, y, _, rfl, hy.kind, hy.strLe hw, fun H1 s1 => ⟨_, rfl, ifb (fun e1 => ?_) (fun e1 => ?_)⟩⟩
    · have e1' := nb e1
      rw [hy.txt] at e1'
      exact q2 (by unfold okStr; rw [e1']; rfl) H1 s1
    have e1' := nb' e1
    rw [hy.txt] at e1'
    obtain ⟨x, rfl, hxt⟩ := txt_str e1'
    have := hy.sStr; subst this
    have hl := txt_len hxt
    refine ⟨_, rfl, _, _, rfl, ⟨len100 (by omega), rfl⟩, ?_⟩
    refine ⟨_, rfl, _, rfl, .int x.length, v, u, .int x.length, d, e, rfl, .int _, hv.keep s1, hu.keep s1, fun k b m ek eb em hk M => ?_, fun no => ?_⟩
    · subst eb em
      have ok : okStr (.str x) (.int (b : Nat)) (.int (m : Nat)) = true := by
        obtain ⟨hb1, hb8, hm, hz⟩ := id M
        have a1 : dBtw (.int (b : Nat)) 1 8 = true := by
          show (decide ((1 : Int) ≤ (b : Nat)) && decide (((b : Nat) : Int) ≤ 8)) = true
          rw [decide_eq_true (by omega), decide_eq_true (by omega)]; rfl
        have a2 : dBtw (.int (m : Nat)) 0 255 = true := by
          show (decide ((0 : Int) ≤ (m : Nat)) && decide (((m : Nat) : Int) ≤ 255)) = true
          rw [decide_eq_true (by omega), decide_eq_true (by omega)]; rfl
        have a3 : landOk (.int (b : Nat)) (.int (m : Nat)) = true := by
          show decide _ = true
          rw [Int.toNat_natCast]
          exact decide_eq_true hz
        unfold okStr okPre
        rw [e1', a1, a2, a3]; rfl
      have q := q1 ok
      injection ek with ek
      have ek' : x.length = k := by omega
      subst ek'
      intro p H2 hp s2 hp2
      have hz := numOct_len x.length b m
      refine ⟨_, rfl, _, rfl, fun D hD => ?_⟩
      refine lc_map walk_str (fun i => V.int ((x.cps.toList.getD i 0 : Nat) : Int)) (by show x.length ≤ 10000000; omega) hD (fun _ _ => True.intro) ?_ ?_
      · rintro i y H' H'' Q' Z hi s3 ⟨rfl, c, hc, rfl⟩ q'
        refine ⟨rfl, yesI ?_⟩
        refine ⟨_, rfl, _, rfl, rfl, ?_⟩
        have e4 : x.cps.toList.getD i 0 = c := getD_of 0 (cps_at hc)
        have := q' H'' (Same.refl _)
        rw [e4] at this
        exact this
      · intro H' s3 hD'
        have e5 : (List.range x.cps.size).map (fun i => V.int ((x.cps.toList.getD i 0 : Nat) : Int)) = (x.cps.toList.map fun (c : Nat) => (c : Int)).map V.int := by
          rw [List.map_map]
          exact range_map x.cps.toList (fun (c : Nat) => V.int (c : Int)) 0
        rw [e5] at hD'
        refine ⟨_, _, _, _, rfl, rfl, s3 _ _ hp2, hD', ?_, fun r hr' => ?_⟩
        · rw [List.length_map, List.length_map, List.length_map, ← str_len, sizeLine_eq]
          omega
        · exact q _ _ ((s1.trans s2).trans s3 |>.put ((s1.trans s2).trans s3 |>.free hr'))
    · refine q2 ?_ H1 s1
      have a1 : dBtw (.int (x.length : Nat)) 0 9999 = true := by
        show (decide ((0 : Int) ≤ (x.length : Nat)) && decide (((x.length : Nat) : Int) ≤ 9999)) = true
        rw [decide_eq_true (by omega), decide_eq_true (by omega)]; rfl
      unfold okNum at no
      rw [a1, Bool.true_and] at no
      unfold okStr
      rw [no, Bool.and_false]

theorem ok_law_is_refused (T : Txt K mg) : FnOk P w K mg base CX0 5 T.f_law_is_refused T.d_law_is_refused ["way", "value", "prefix", "mark"] (sp_refused3 K) := by
  refine T.F_law_is_refused.ok sc_law_is_refused (fun vs H Q E h => ?_) (fun cdv A outer s H vs Q E hr h => ?_)
  · obtain ⟨way, x, v, u, n, d, e, rfl, _⟩ := h
    rfl
  · obtain ⟨way, x, v, u, n, d, e, rfl, hway, hx, hxw, hv, hu, no, q⟩ := h
    refine ⟨_, (pss_cons (ps_set (i := 4) sc_law_is_refused.nd rfl (Or.inl rfl) pe_non)
      (pss_cons (ps_try_keep (i := 6) rfl rfl sc_law_is_refused.nd rfl rfl ⟨rfl, rfl, .inl T.B_FieldError.g⟩ rfl takes0 (fun W pn xe tk hp =>
        (pss_one (ps_set (i := 5) sc_law_is_refused.nd rfl (Or.inl rfl) (pe_ifExp (pt_cmpR op_eq (pv 0) pe_int (nomark _)) (pe_callS (ok_number_octets T) (hr.mono (by decide)) rfl T.g_number_octets T.F_number_octets.kp T.b_number_octets (fun σ => passAt tk σ) (pa_cons (pv 1) (pa_cons (pv 2) (pa_cons (pv 3) pa_nil)))) (pe_callS (ok_string_octets T) (hr.mono (by decide)) rfl T.g_string_octets T.F_string_octets.kp T.b_string_octets (fun σ => passAt tk σ) (pa_cons (pv 1) (pa_cons (pv 2) (pa_cons (pv 3) pa_nil)))))))) (fun _ _ _ _ _ _ _ => (pss_one (ps_set (i := 4) sc_law_is_refused.nd rfl (Or.inl rfl) (pv 6)))))
      (pss_one (ps_ret (pe_and (pe_callB call_isU rfl T.z_isinstance boot_isinstance (pa_cons (pv 4) (pa_cons (pe_glob (v := .ref T.C_NoValue) rfl T.P_NoValue.g rfl) pa_nil))) (pe_one (pe_not (pe_callB call_isXT rfl T.z_isinstance boot_isinstance (pa_cons (pv 4) (pa_cons (pe_tup (pa_cons (pe_glob (v := .ref T.C_NoSetting) rfl T.P_NoSetting.g rfl) (pa_cons (pe_glob (v := .ref T.C_NoField) rfl T.P_NoField.g rfl) (pa_cons (pe_glob (v := .ref T.C_NoOctetList) rfl T.P_NoOctetList.g rfl) (pa_cons (pe_glob (v := .ref T.C_NoNumber) rfl T.P_NoNumber.g rfl) pa_nil))))) pa_nil)))))))))), ?_⟩
    have four : ∀ (H1 : Hp) (a : Addr), True := fun _ _ => True.intro
    rcases hway with rfl | rfl
    · have no' : okNum n d e = false := no
      refine ⟨_, rfl, rfl, _, rfl, ifT (by decide) ?_⟩
      refine ⟨_, rfl, _, rfl, _, rfl, x, v, u, n, d, e, rfl, hx, hv, hu, fun k b m ek eb em hk M => ?_, fun _ => ?_⟩
      · subst ek eb em
        unfold okNum at no'
        rw [nat_btw hk, okPre_of M] at no'
        cases no'
      · refine ⟨true, T.R_FieldError.exm T.S_NoValue, fun _ a na => ?_, fun z => nomatch z⟩
        refine ⟨_, rfl, fun na2 => ?_⟩
        refine ⟨_, rfl, .inr ⟨a, T.C_NoValue, _, _, true, rfl, upd_same, T.X_NoValue.x, .own _, T.X_NoValue.self T.U_NoValue_NoValue, ?_⟩⟩
        refine ⟨_, rfl, ?_⟩
        rw [if_pos rfl]
        refine ⟨_, rfl, by show 4 ≤ sizeLine; decide, fun tp htp => ?_⟩
        have gA : upd H a (ExK (.ref T.C_NoValue) none a) a = some (ExK (.ref T.C_NoValue) none a) := upd_same
        refine ⟨a, T.C_NoValue, tp, _, _, false, rfl, by rw [upd_ne (fun z => by rw [← z, upd_same] at htp; cases htp)]; exact gA, T.X_NoValue.x, upd_same, .cons (.own _) (.cons (.own _) (.cons (.own _) (.cons (.own _) .nil))), ?_, ?_⟩
        · show PySem.W.kitAny K _ _ = some false
          rw [kitAny_no (T.X_NoSetting.other T.U_NoValue_NoSetting T.U_NoValue_NoValue), kitAny_no (T.X_NoField.other T.U_NoValue_NoField T.U_NoValue_NoValue), kitAny_no (T.X_NoOctetList.other T.U_NoValue_NoOctetList T.U_NoValue_NoValue), kitAny_no (T.X_NoNumber.other T.U_NoValue_NoNumber T.U_NoValue_NoValue)]
          rfl
        · exact ⟨_, rfl, q _ (((Same.refl H).put na2).trans (Same.new htp))⟩
    · have no' : okStr n d e = false := no
      refine ⟨_, rfl, rfl, _, rfl, ifF (by decide) ?_⟩
      refine ⟨_, rfl, _, rfl, _, rfl, x, v, u, n, d, e, rfl, hx, hxw, hv, hu, fun y => ?_, fun _ H1 s1 => ?_⟩
      · rw [no'] at y; cases y
      · refine ⟨true, T.R_FieldError.exm T.S_NoValue, fun _ a na => ?_, fun z => nomatch z⟩
        refine ⟨_, rfl, fun na2 => ?_⟩
        refine ⟨_, rfl, .inr ⟨a, T.C_NoValue, _, _, true, rfl, upd_same, T.X_NoValue.x, .own _, T.X_NoValue.self T.U_NoValue_NoValue, ?_⟩⟩
        refine ⟨_, rfl, ?_⟩
        rw [if_pos rfl]
        refine ⟨_, rfl, by show 4 ≤ sizeLine; decide, fun tp htp => ?_⟩
        have gA : upd H1 a (ExK (.ref T.C_NoValue) none a) a = some (ExK (.ref T.C_NoValue) none a) := upd_same
        refine ⟨a, T.C_NoValue, tp, _, _, false, rfl, by rw [upd_ne (fun z => by rw [← z, upd_same] at htp; cases htp)]; exact gA, T.X_NoValue.x, upd_same, .cons (.own _) (.cons (.own _) (.cons (.own _) (.cons (.own _) .nil))), ?_, ?_⟩
        · show PySem.W.kitAny K _ _ = some false
          rw [kitAny_no (T.X_NoSetting.other T.U_NoValue_NoSetting T.U_NoValue_NoValue), kitAny_no (T.X_NoField.other T.U_NoValue_NoField T.U_NoValue_NoValue), kitAny_no (T.X_NoOctetList.other T.U_NoValue_NoOctetList T.U_NoValue_NoValue), kitAny_no (T.X_NoNumber.other T.U_NoValue_NoNumber T.U_NoValue_NoValue)]
          rfl
        · exact ⟨_, rfl, q _ ((s1.put (s1.free na2)).trans (Same.new htp))⟩

theorem ok_law_open (T : Txt K mg) : FnOk P w K mg base CX0 1 T.f_law_open T.d_law_open ["script"] (sp_law_open K) := by
  refine T.F_law_open.ok sc_law_open (fun vs H Q E h => ?_) (fun cdv A outer s H vs Q E hr h => ?_)
  · obtain ⟨a, ns, rfl, _⟩ := h
    rfl
  · obtain ⟨a, ns, rfl, hS, hl, q⟩ := h
    refine ⟨_, (pss_cons (ps_set (i := 1) sc_law_open.nd rfl (Or.inl rfl) (pe_callTy call_list_of rfl T.z_list boot_list (pa_cons (pe_slice sl_list (pv 0) po_none (po_some pe_int)) pa_nil)))
      (pss_cons (ps_for PassesOwn.never rfl (pi_enum rfl T.z_enumerate (pa_cons (pe_slice sl_list (pv 0) (po_some pe_int) (po_some pe_int)) pa_nil)) (pg_tup rfl (pgs_cons (pg_name (i := 2) sc_law_open.nd rfl (Or.inl rfl)) (pgs_cons (pg_name (i := 3) sc_law_open.nd rfl (Or.inl rfl)) pgs_nil)))
        (pss_one (ps_asg (pe_op op_add (pe_ix ix_list (pv 1) (pe_op op_mod (pv 2) pe_int) (fun _ _ => rfl)) (pv 3)) (pg_sub (pv 1) (pe_op op_mod (pv 2) pe_int) set_list))))
      (pss_one (ps_ret (pe_lst (pa_cons (pv 1) (pa_cons pe_int (pa_cons pe_int pa_nil)))))))), ?_⟩
    refine ⟨_, rfl, _, rfl, a, _, rfl, hS, fun p1 hp1 => ?_⟩
    refine ⟨p1, _, rfl, .inl (SqL.of upd_same), fun c hc => ?_⟩
    have s1 : Same H (upd (upd H p1 (.lst (cutV (ns.map V.int) none (some 12)))) c (.lst (cutV (ns.map V.int) none (some 12)))) := (Same.new hp1).trans (Same.new hc)
    have hcc : H c = none := (Same.new hp1).free hc
    refine ⟨_, rfl, _, rfl, _, rfl, a, _, rfl, s1.seq hS, fun p2 hp2 => ?_⟩
    have npc : c ≠ p2 := ne_of_none upd_same hp2
    have s2 := s1.trans (Same.new (o := .lst (cutV (ns.map V.int) (some 12) (some 63))) hp2)
    refine ⟨p2, _, rfl, SqL.of upd_same, ?_⟩
    generalize hH2 : upd (upd (upd H p1 (.lst (cutV (ns.map V.int) none (some 12)))) c (.lst (cutV (ns.map V.int) none (some 12)))) p2 (.lst (cutV (ns.map V.int) (some 12) (some 63))) = H2 at s2 ⊢
    have gc : H2 c = some (.lst ((ns.take 12).map V.int)) := by
      rw [← hH2, upd_ne npc, upd_same]
      have := cut_to (ns.map V.int) 12
      rw [List.map_take]
      exact congrArg (fun l => some (HO.lst l)) this
    have g2 : H2 p2 = some (.lst (cutV (ns.map V.int) (some 12) (some 63))) := by rw [← hH2, upd_same]
    have el : (cutV (ns.map V.int) (some 12) (some 63)) = ((ns.drop 12).take 51).map V.int := by
      have := cut_mid (ns.map V.int) 12 63
      rw [List.map_take, List.map_drop]
      exact this
    rw [el] at g2
    clear hH2 el
    refine for_it (walk_enum (K := K) (a := p2) (xs := ((ns.drop 12).take 51).map V.int)) (fun i σ H' => ∃ (cs : List Int) (x y : Option V), σ = [some (.ref a), some (.ref c), x, y] ∧ But c H2 H' ∧ H' c = some (.lst (cs.map V.int)) ∧ cs.length = (ns.take 12).length)
      ⟨ns.take 12, none, none, rfl, But.refl _ _, gc, rfl⟩ (fun i σ H' _ ⟨_, _, _, _, b, _⟩ => b.seq (Ne.symm npc) (SqL.of g2)) ?_ ?_
    · rintro i x σ H' H'' hi ⟨cs, v1, v2, rfl, b, hcs, hlen⟩ ⟨t, z1, z2, rfl, ht, rfl, e1, e2⟩
      cases e1
      have e3 : ∃ z : Int, z2 = .int z := by
        replace e2 : (((ns.drop 12).take 51).map V.int)[i]? = some z2 := e2
        rw [List.getElem?_map] at e2
        cases e4 : ((ns.drop 12).take 51)[i]? with
        | none => rw [e4] at e2; cases e2
        | some z => rw [e4] at e2; exact ⟨z, (Option.some.inj e2).symm⟩
      obtain ⟨z, rfl⟩ := e3
      have h12 : cs.length = 12 := by
        rw [hlen]
        rw [List.length_map, List.length_take, List.length_drop] at hi
        rw [List.length_take]
        omega
      have hm : i % 12 < cs.length := by omega
      have nct : c ≠ t := ne_of_none hcs ht
      have hcs' : upd H' t (.tup [.int (i : Nat), .int z]) c = some (.lst (cs.map V.int)) := by rw [upd_ne nct]; exact hcs
      refine ⟨t, _, rfl, SqT.of upd_same, rfl, _, _, rfl, _, _, rfl, rfl, ?_⟩
      have em : ((i : Nat) : Int) % 12 = ((i % 12 : Nat) : Int) := by omega
      have ea : atI (cs.map V.int) (((i : Nat) : Int) % 12) = some (.int cs[i % 12]) := by
        rw [em]
        exact atI_nat (by rw [List.getElem?_map, List.getElem?_eq_getElem hm]; rfl)
      refine ⟨_, rfl, _, rfl, _, _, rfl, rfl, (by show (0 : Int) < 12; decide), c, _, _, _, rfl, rfl, SqL.of hcs', ea, _, rfl, _, _, rfl, rfl, ?_⟩
      refine ⟨_, rfl, _, rfl, _, _, rfl, rfl, (by show (0 : Int) < 12; decide), c, _, _, i % 12, rfl, rfl, hcs', ?_, ?_⟩
      · show ixN (cs.map V.int).length (((i : Nat) : Int) % 12) = _
        rw [em]
        exact Evl.ixN_nat (by rw [List.length_map]; exact hm)
      · refine ⟨cs.set (i % 12) (cs[i % 12] + z), _, _, rfl, (b.trans (But.new ht)).trans But.set, ?_, by rw [List.length_set]; exact hlen⟩
        rw [upd_same, ← List.map_set]
    · rintro σ H' ⟨cs, v1, v2, rfl, b, hcs, hlen⟩
      refine ⟨_, rfl, (by show 3 ≤ sizeLine; decide), fun p hp => ?_⟩
      have s3 : Same H H' := fun u o e => b u o (ne_of_none e hcc) (s2 u o e)
      refine q p c _ (s3.free hp) (s3.put (s3.free hp)) ⟨0, 0, cs, upd_same, ?_, ne_of_none hcs hp, ?_, Nat.le_refl _⟩
      · rw [upd_ne (ne_of_none hcs hp)]; exact hcs
      · rw [hlen, List.length_take]; omega
theorem ok_law_spread (T : Txt K mg) : FnOk P w K mg base CX0 1 T.f_law_spread T.d_law_spread ["cell", "at"] sp_law_spread := by
  refine T.F_law_spread.ok sc_law_spread (fun vs H Q E h => ?_) (fun cdv A outer s H vs Q E hr h => ?_)
  · obtain ⟨c, a, rfl, _⟩ := h
    rfl
  · obtain ⟨c, a, rfl, ha, q⟩ := h
    refine ⟨_, (pss_cons (ps_if (pt_cmpR op_ge (pv 0) (pe_op op_pow pe_int pe_int) (nomark _)) (pss_one (ps_ret (pv 0))) pss_nil)
      (pss_cons (ps_set (i := 2) sc_law_spread.nd rfl (Or.inl rfl) (pe_lst (pa_cons pe_int (pa_cons pe_int (pa_cons pe_int (pa_cons pe_int (pa_cons pe_int (pa_cons pe_int (pa_cons pe_int (pa_cons pe_int pa_nil))))))))))
      (pss_cons (ps_set (i := 2) sc_law_spread.nd rfl (Or.inl rfl) (pe_op op_cat (pv 2) (pe_lst (pa_cons pe_int (pa_cons pe_int (pa_cons pe_int (pa_cons pe_int (pa_cons pe_int pa_nil))))))))
      (Evl.pss_cut (ps_set (i := 3) sc_law_spread.nd rfl (Or.inl rfl) (pe_op op_mod (pe_op op_pow (pe_op op_add (pe_op op_add (pe_op op_mul (pe_op op_mod (pv 0) pe_int) (pe_op op_add (pe_op op_mul pe_int (pv 1)) pe_int)) (pe_op op_mul (pv 1) pe_int)) pe_int) pe_int) (pe_ix ix_list (pv 2) (pe_op op_mod (pv 1) pe_int) (fun _ _ => rfl))))
      (Evl.pss_cut (ps_set (i := 4) sc_law_spread.nd rfl (Or.inl rfl) (pe_op op_mod (pe_op op_pow (pe_op op_add (pe_op op_add (pe_op op_mul (pv 3) (pe_op op_add (pv 1) pe_int)) (pe_op op_mod (pv 0) pe_int)) pe_int) pe_int) (pe_ix ix_list (pv 2) (pe_op op_mod (pe_op op_add (pv 1) pe_int) pe_int) (fun _ _ => rfl))))
      (Evl.pss_cut (ps_set (i := 5) sc_law_spread.nd rfl (Or.inl rfl) (pe_op op_mod (pe_op op_pow (pe_op op_add (pe_op op_add (pv 4) (pe_op op_mod (pv 3) pe_int)) (pv 1)) pe_int) (pe_ix ix_list (pv 2) (pe_op op_mod (pe_op op_add (pv 1) pe_int) pe_int) (fun _ _ => rfl))))
      (pss_one (ps_ret (pe_op op_add (pe_op op_mul (pe_op op_add (pe_op op_mul (pv 3) pe_int) (pv 4)) pe_int) (pv 5)))))))))), ?_⟩
    refine ⟨_, rfl, _, _, rfl, rfl, ⟨by decide, by decide, by decide⟩, _, _, rfl, rfl, _, rfl, ?_⟩
    refine ifb (fun _ => ?_) (fun _ => ?_)
    · exact ⟨_, rfl, q c H (Same.refl _)⟩
    refine ⟨by show 8 ≤ sizeLine; decide, fun p1 hp1 => ?_⟩
    refine ⟨_, rfl, by show 5 ≤ sizeLine; decide, fun p2 hp2 => ?_⟩
    have n12 : p1 ≠ p2 := ne_of_none upd_same hp2
    refine ⟨p1, p2, _, _, rfl, rfl, by rw [upd_ne n12]; exact upd_same, upd_same, by show 13 ≤ sizeLine; decide, fun p3 hp3 => ?_⟩
    have s3 : Same H _ := ((Same.new hp1).trans (Same.new hp2)).trans (Same.new (o := .lst (primes.map V.int)) hp3)
    have g3 : upd (upd (upd H p1 (.lst [.int 2147483629, .int 2147483587, .int 2147483579, .int 2147483563, .int 2147483549, .int 2147483543, .int 2147483497, .int 2147483489])) p2 (.lst [.int 2147483477, .int 2147483423, .int 2147483399, .int 2147483353, .int 2147483323])) p3 (.lst (primes.map V.int)) p3 = some (.lst (primes.map V.int)) := upd_same
    have hm1 : 0 ≤ c % 1000000007 ∧ c % 1000000007 < 1000000007 := ⟨Int.emod_nonneg _ (by decide), Int.emod_lt_of_pos _ (by decide)⟩
    have hm2 : 0 ≤ c % 65537 ∧ c % 65537 < 65537 := ⟨Int.emod_nonneg _ (by decide), Int.emod_lt_of_pos _ (by decide)⟩
    have ix : ∀ k : Nat, ∃ r : Int, atI (primes.map V.int) (((k : Nat) : Int) % 13) = some (.int r) ∧ 0 < r ∧ r < 2147483648 := fun k => primes_at (Int.emod_nonneg _ (by decide)) (Int.emod_lt_of_pos _ (by decide))
    obtain ⟨r1, i1, r1p, r1b⟩ := ix a
    obtain ⟨r2, i2, r2p, r2b⟩ := ix (a + 5)
    obtain ⟨r3, i3, r3p, r3b⟩ := ix (a + 7)
    rw [Int.natCast_add] at i2 i3
    have e18 : (10 : Int) ^ 18 = 1000000000000000000 := by decide
    have b1 := mul_bd (A := 1000000007) (B := 2069069) hm1.1 (Int.le_of_lt hm1.2) (b := 2 * (a : Int) + 69069) (by omega) (by omega)
    refine ⟨fun σ' H' => ∃ one : Int, σ' = [some (.int c), some (.int (a : Nat)), some (.ref p3), some (.int one), none, none] ∧ (0 ≤ one ∧ one < 2147483648) ∧ H' p3 = some (.lst (primes.map V.int)) ∧ Same H H', ?_, ?_⟩
    · refine ⟨_, rfl, _, _, rfl, rfl, (by show (0 : Int) < 1000000007; decide), _, rfl, _, _, rfl, rfl, .inl ⟨by decide, by decide⟩, _, _, rfl, rfl, _, _, rfl, rfl, mul64 hm1.1 (by omega),
        _, rfl, _, _, rfl, rfl, .inr ⟨by decide, by decide⟩, _, _, rfl, rfl, _, _, rfl, rfl, _, _, rfl, rfl, ⟨by decide, by decide, pow_small (by omega) (by omega)⟩,
        _, rfl, _, rfl, _, _, rfl, rfl, (by show (0 : Int) < 13; decide), p3, _, _, _, rfl, rfl, SqL.of g3, i1, _, _, rfl, rfl, r1p, ?_⟩
      exact ⟨_, rfl, ⟨Int.emod_nonneg _ (by omega), Int.lt_trans (Int.emod_lt_of_pos _ r1p) r1b⟩, g3, s3⟩
    · rintro σ' H' ⟨one, rfl, hone, g3, s3⟩
      have b2 := mul_bd (A := 2147483648) (B := 1000003) hone.1 (Int.le_of_lt hone.2) (b := (a : Int) + 3) (by omega) (by omega)
      refine ⟨fun σ' H' => ∃ two : Int, σ' = [some (.int c), some (.int (a : Nat)), some (.ref p3), some (.int one), some (.int two), none] ∧ (0 ≤ two ∧ two < 2147483648) ∧ H' p3 = some (.lst (primes.map V.int)) ∧ Same H H', ?_, ?_⟩
      · refine ⟨_, rfl, _, rfl, _, _, rfl, rfl, _, _, rfl, rfl, mul64 hone.1 (by omega), _, rfl, _, _, rfl, rfl, (by show (0 : Int) < 65537; decide), _, _, rfl, rfl, _, _, rfl, rfl, _, _, rfl, rfl, ⟨by decide, by decide, pow_small (by omega) (by omega)⟩,
          _, rfl, _, rfl, _, _, rfl, rfl, _, _, rfl, rfl, (by show (0 : Int) < 13; decide), p3, _, _, _, rfl, rfl, SqL.of g3, i2, _, _, rfl, rfl, r2p, ?_⟩
        exact ⟨_, rfl, ⟨Int.emod_nonneg _ (by omega), Int.lt_trans (Int.emod_lt_of_pos _ r2p) r2b⟩, g3, s3⟩
      · rintro σ' H' ⟨two, rfl, htwo, g3, s3⟩
        have hm3 : 0 ≤ one % 1009 ∧ one % 1009 < 1009 := ⟨Int.emod_nonneg _ (by decide), Int.emod_lt_of_pos _ (by decide)⟩
        refine ⟨fun σ' H' => ∃ three : Int, σ' = [some (.int c), some (.int (a : Nat)), some (.ref p3), some (.int one), some (.int two), some (.int three)] ∧ Same H H', ?_, ?_⟩
        · refine ⟨_, rfl, _, rfl, _, _, rfl, rfl, (by show (0 : Int) < 1009; decide), _, _, rfl, rfl, _, rfl, _, _, rfl, rfl, _, _, rfl, rfl, ⟨by decide, by decide, pow_small (by omega) (by omega)⟩,
            _, rfl, _, rfl, _, _, rfl, rfl, _, _, rfl, rfl, (by show (0 : Int) < 13; decide), p3, _, _, _, rfl, rfl, SqL.of g3, i3, _, _, rfl, rfl, r3p, ?_⟩
          exact ⟨_, rfl, s3⟩
        · rintro σ' H' ⟨three, rfl, s3⟩
          refine ⟨_, rfl, _, _, rfl, rfl, .inr ⟨by decide, by decide⟩, _, rfl, _, _, rfl, rfl, _, _, rfl, rfl, .inr ⟨by decide, by decide⟩, _, rfl, _, _, rfl, rfl, ?_⟩
          exact q _ H' s3

theorem ok_law_take (T : Txt K mg) : FnOk P w K mg base CX0 2 T.f_law_take T.d_law_take ["pen", "amount"] sp_law_take := by
  refine T.F_law_take.ok sc_law_take (fun vs H Q E h => ?_) (fun cdv A outer s H vs Q E hr h => ?_)
  · obtain ⟨p, c, n, k, rfl, _⟩ := h
    rfl
  · obtain ⟨p, c, n, k, rfl, ⟨a, acc, ns, gp, gc, ncp, hns, han⟩, hk0, hk, hn, q⟩ := h
    refine ⟨_, (Evl.pss_cut (ps_if (pt_cmpR op_lt (pe_ix ix_list (pv 0) pe_int (fun _ _ => rfl)) (pv 1) (nomark _)) (pss_cons (ps_set (i := 2) sc_law_take.nd rfl (Or.inl rfl) (pe_ix ix_list (pv 0) pe_int (fun _ _ => rfl)))
      (pss_cons (ps_set (i := 3) sc_law_take.nd rfl (Or.inl rfl) pe_int)
      (Evl.pss_cut (ps_if (pt_cmpR op_lt (pv 2) (pe_callB call_len rfl T.z_len boot_len (pa_cons (pe_ix ix_list (pv 0) pe_int (fun _ _ => rfl)) pa_nil)) (nomark _)) (pss_one (ps_set (i := 3) sc_law_take.nd rfl (Or.inl rfl) (pe_ix ix_list (pe_ix ix_list (pv 0) pe_int (fun _ _ => rfl)) (pv 2) (fun _ _ => rfl)))) (pss_one (ps_if (pt_cmpR op_gt (pe_callB call_len rfl T.z_len boot_len (pa_cons (pe_ix ix_list (pv 0) pe_int (fun _ _ => rfl)) pa_nil)) pe_int (nomark _)) (pss_one (ps_set (i := 3) sc_law_take.nd rfl (Or.inl rfl) (pe_op op_mod (pe_ix ix_list (pe_ix ix_list (pv 0) pe_int (fun _ _ => rfl)) (pe_op op_mod (pe_op op_add (pe_op op_mul (pv 2) pe_int) pe_int) (pe_callB call_len rfl T.z_len boot_len (pa_cons (pe_ix ix_list (pv 0) pe_int (fun _ _ => rfl)) pa_nil))) (fun _ _ => rfl)) (pe_op op_add (pe_op op_pow pe_int pe_int) (pv 2))))) pss_nil)))
      (pss_cons (ps_asg (pe_op op_add (pv 2) pe_int) (pg_sub (pv 0) pe_int set_list))
      (pss_one (ps_asg (pe_call (ok_law_spread T) (hr.mono (by decide)) rfl T.g_law_spread T.F_law_spread.kp T.b_law_spread .nil pass0 (pa_cons (pv 3) (pa_cons (pv 2) pa_nil))) (pg_sub (pv 0) pe_int set_list))))))) pss_nil)
      (pss_cons (ps_set (i := 4) sc_law_take.nd rfl (Or.inl rfl) (pe_op op_mod (pe_ix ix_list (pv 0) pe_int (fun _ _ => rfl)) (pv 1)))
      (pss_cons (ps_asg (pe_op op_fdiv (pe_ix ix_list (pv 0) pe_int (fun _ _ => rfl)) (pv 1)) (pg_sub (pv 0) pe_int set_list))
      (pss_one (ps_ret (pv 4)))))), ?_⟩
    refine ⟨fun σ' H' => ∃ (a' : Nat) (acc' : Int) (x y : Option V), σ' = [some (.ref p), some (.int k), x, y, none] ∧ But p H H' ∧ H' p = some (.lst [.ref c, .int (a' : Nat), .int acc']) ∧ H' c = some (.lst (ns.map V.int)) ∧ a' ≤ n + 1, ?_, ?_⟩
    · refine ⟨_, rfl, p, _, _, _, rfl, rfl, SqL.of gp, rfl, _, rfl, _, _, rfl, rfl, _, rfl, ?_⟩
      refine ifb (fun _ => ?_) (fun _ => ?_)
      · refine ⟨_, rfl, p, _, _, _, rfl, rfl, SqL.of gp, rfl, ?_⟩
        refine ⟨fun σ' H' => ∃ z : Int, σ' = [some (.ref p), some (.int k), some (.int (a : Nat)), some (.int z), none] ∧ H = H', ?_, ?_⟩
        · refine ⟨_, rfl, _, rfl, p, _, _, _, rfl, rfl, SqL.of gp, rfl, _, _, rfl, .inl ⟨_, SqL.of gc, rfl⟩, _, _, rfl, rfl, _, rfl, ?_⟩
          rw [List.length_map]
          by_cases c1 : a < ns.length
          · refine ifT (decide_eq_true (by omega)) ?_
            refine ⟨_, rfl, p, _, _, _, rfl, rfl, SqL.of gp, rfl, _, rfl, c, _, _, _, rfl, rfl, SqL.of gc, atI_nat (j := a) (v := .int ns[a]) (by rw [List.getElem?_map, List.getElem?_eq_getElem c1]; rfl), ?_⟩
            exact ⟨_, rfl, rfl⟩
          · refine ifF (decide_eq_false (by omega)) ?_
            refine ⟨_, rfl, p, _, _, _, rfl, rfl, SqL.of gp, rfl, _, _, rfl, .inl ⟨_, SqL.of gc, rfl⟩, _, _, rfl, rfl, _, rfl, ?_⟩
            rw [List.length_map]
            by_cases c2 : 0 < ns.length
            · refine ifT (decide_eq_true (by omega)) ?_
              have hm : (((a : Nat) : Int) * 5 + 3) % ((ns.length : Nat) : Int) = (((a * 5 + 3) % ns.length : Nat) : Int) := by
                rw [Int.natCast_emod]; rfl
              have hlt : (a * 5 + 3) % ns.length < ns.length := Nat.mod_lt _ c2
              obtain ⟨w0, ea⟩ : ∃ w0 : Int, atI (ns.map V.int) ((((a : Nat) : Int) * 5 + 3) % (((ns.map V.int).length : Nat) : Int)) = some (.int w0) := by
                rw [List.length_map, hm]
                exact ⟨ns[(a * 5 + 3) % ns.length], atI_nat (by rw [List.getElem?_map, List.getElem?_eq_getElem hlt]; rfl)⟩
              have pos : (0 : Int) < (((ns.map V.int).length : Nat) : Int) := by rw [List.length_map]; omega
              have e17 : (10 : Int) ^ (17 : Int).toNat = 100000000000000000 := by decide
              refine ⟨_, rfl, p, _, _, _, rfl, rfl, SqL.of gp, rfl, _, rfl, _, _, rfl, rfl, .inr ⟨by decide, by decide⟩, _, _, rfl, rfl, _, rfl, p, _, _, _, rfl, rfl, SqL.of gp, rfl, _, _, rfl, .inl ⟨_, SqL.of gc, rfl⟩, _, _, rfl, rfl, pos,
                c, _, _, _, rfl, rfl, SqL.of gc, ea, _, _, rfl, rfl, ⟨by decide, by decide, by decide⟩, _, rfl, _, _, rfl, rfl, _, _, rfl, rfl, ?_, ?_⟩
              · show (0 : Int) < (10 : Int) ^ (17 : Int).toNat + (a : Int)
                rw [e17]
                omega
              · exact ⟨_, rfl, rfl⟩
            · refine ifF (decide_eq_false (by omega)) ?_
              exact ⟨_, rfl, rfl⟩
        · rintro σ' H' ⟨z, rfl, rfl⟩
          refine ⟨_, rfl, _, _, rfl, rfl, _, rfl, p, _, _, 1, rfl, rfl, gp, rfl, ?_⟩
          refine ⟨_, rfl, _, rfl, z, a, rfl, by omega, fun r H' s1 => ?_⟩
          have g1 : H' p = some (.lst [.ref c, .int ((a + 1 : Nat) : Int), .int acc]) := s1 _ _ upd_same
          have gc1 : H' c = some (.lst (ns.map V.int)) := s1 _ _ (by rw [upd_ne ncp]; exact gc)
          refine ⟨_, rfl, p, _, _, 2, rfl, rfl, g1, rfl, ?_⟩
          exact ⟨a + 1, r, _, _, rfl, (But.set.trans (But.of s1)).trans But.set, upd_same, by rw [upd_ne ncp]; exact gc1, by omega⟩
      · exact ⟨a, acc, none, none, rfl, But.refl _ _, gp, gc, by omega⟩
    · rintro σ' H' ⟨a', acc', x, y, rfl, b, gp', gc', ha'⟩
      refine ⟨_, rfl, p, _, _, _, rfl, rfl, SqL.of gp', rfl, _, rfl, _, _, rfl, rfl, hk0, ?_⟩
      refine ⟨_, rfl, p, _, _, _, rfl, rfl, SqL.of gp', rfl, _, rfl, _, _, rfl, rfl, ⟨hk0, hk⟩, _, rfl, p, _, _, 2, rfl, rfl, gp', rfl, ?_⟩
      refine ⟨_, rfl, ?_⟩
      exact q _ _ (Int.emod_nonneg _ (by omega)) (Int.emod_lt_of_pos _ hk0) ⟨⟨a', _, ns, upd_same, by rw [upd_ne ncp]; exact gc', ncp, hns, ha'⟩, b.trans But.set⟩
theorem ok_law_one_of (T : Txt K mg) : FnOk P w K mg base CX0 3 T.f_law_one_of T.d_law_one_of ["pen", "some"] (sp_law_one_of K) := by
  refine T.F_law_one_of.ok sc_law_one_of (fun vs H Q E h => ?_) (fun cdv A outer s H vs Q E hr h => ?_)
  · obtain ⟨p, c, a, n, xs, rfl, _⟩ := h
    rfl
  · obtain ⟨p, c, a, n, xs, rfl, hp, hS, nap, hne, hz, hn, q⟩ := h
    refine ⟨_, (pss_one (ps_ret (pe_ix ix_list (pv 1) (pe_call (ok_law_take T) (hr.mono (by decide)) rfl T.g_law_take T.F_law_take.kp T.b_law_take .nil pass0 (pa_cons (pv 0) (pa_cons (pe_callB call_len rfl T.z_len boot_len (pa_cons (pv 1) pa_nil)) pa_nil))) (fun _ _ => rfl)))), ?_⟩
    have hpos : 0 < xs.length := List.length_pos_iff.mpr hne
    refine ⟨_, rfl, _, rfl, _, rfl, _, _, rfl, .inl ⟨_, hS, rfl⟩, ?_⟩
    refine ⟨p, c, n, xs.length, rfl, hp, by omega, by omega, hn, fun r H' h0 h1 d => ?_⟩
    have hr' : r.toNat < xs.length := by omega
    have er : r = ((r.toNat : Nat) : Int) := by omega
    refine ⟨a, xs, r, xs[r.toNat], rfl, rfl, d.but.seq nap hS, ?_, ?_⟩
    · exact at_of er (List.getElem?_eq_getElem hr')
    · exact q _ H' (List.getElem_mem hr') d
theorem ok_law_signs (T : Txt K mg) : FnOk P w K mg base CX0 1 T.f_law_signs T.d_law_signs [] sp_law_signs := by
  refine T.F_law_signs.ok sc_law_signs (fun vs H Q E h => ?_) (fun cdv A outer s H vs Q E hr h => ?_)
  · obtain ⟨rfl, _⟩ := h
    rfl
  · obtain ⟨rfl, q⟩ := h
    refine ⟨_, (pss_one (ps_ret pe_str)), ?_⟩
    exact q

theorem ok_law_draw_number (T : Txt K mg) : FnOk P w K mg base CX0 4 T.f_law_draw_number T.d_law_draw_number ["pen"] sp_law_draw_number := by
  refine T.F_law_draw_number.ok sc_law_draw_number (fun vs H Q E h => ?_) (fun cdv A outer s H vs Q E hr h => ?_)
  · obtain ⟨p, c, n, rfl, _⟩ := h
    rfl
  · obtain ⟨p, c, n, rfl, hp, hn, q⟩ := h
    refine ⟨_, (Evl.pss_cut (ps_set (i := 1) sc_law_draw_number.nd rfl (Or.inl rfl) (pe_call (ok_law_one_of T) (hr.mono (by decide)) rfl T.g_law_one_of T.F_law_one_of.kp T.b_law_one_of .nil pass0 (pa_cons (pv 0) (pa_cons (pe_lst (pa_cons pe_int (pa_cons pe_int (pa_cons pe_int (pa_cons pe_int (pa_cons pe_int (pa_cons pe_int (pa_cons pe_int (pa_cons pe_int (pa_cons pe_int (pa_cons pe_int (pa_cons pe_int (pa_cons pe_int (pa_cons pe_int (pa_cons pe_int (pa_cons pe_int pa_nil)))))))))))))))) pa_nil))))
      (Evl.pss_cut (ps_set (i := 2) sc_law_draw_number.nd rfl (Or.inl rfl) (pe_lst (pa_cons pe_int (pa_cons pe_int (pa_cons (pe_call (ok_law_take T) (hr.mono (by decide)) rfl T.g_law_take T.F_law_take.kp T.b_law_take .nil pass0 (pa_cons (pv 0) (pa_cons pe_int pa_nil))) (pa_cons (pe_call (ok_law_take T) (hr.mono (by decide)) rfl T.g_law_take T.F_law_take.kp T.b_law_take .nil pass0 (pa_cons (pv 0) (pa_cons pe_int pa_nil))) (pa_cons (pe_call (ok_law_take T) (hr.mono (by decide)) rfl T.g_law_take T.F_law_take.kp T.b_law_take .nil pass0 (pa_cons (pv 0) (pa_cons pe_int pa_nil))) (pa_cons (pe_op op_sub (pe_op op_add (pv 1) (pe_call (ok_law_take T) (hr.mono (by decide)) rfl T.g_law_take T.F_law_take.kp T.b_law_take .nil pass0 (pa_cons (pv 0) (pa_cons pe_int pa_nil)))) pe_int) pa_nil))))))))
      (pss_one (ps_ret (pe_callB (call_max2 rfl) rfl T.z_max boot_max (pa_cons pe_int (pa_cons (pe_callB (call_min2 rfl) rfl T.z_min boot_min (pa_cons pe_int (pa_cons (pe_call (ok_law_one_of T) (hr.mono (by decide)) rfl T.g_law_one_of T.F_law_one_of.kp T.b_law_one_of .nil pass0 (pa_cons (pv 0) (pa_cons (pv 2) pa_nil))) pa_nil))) pa_nil))))))), ?_⟩
    refine ⟨fun σ' H' => ∃ z : Int, σ' = [some (.ref p), some (.int z), none] ∧ Drew p c H H' (n + 1), ?_, ?_⟩
    · refine ⟨_, rfl, by show 15 ≤ sizeLine; decide, fun l hl => ?_⟩
      refine ⟨p, c, l, n, _, rfl, hp.keep (Same.new hl), SqL.of upd_same, Ne.symm (hp.ne hl), by simp, by simp, by omega, fun x H2 hx d => ?_⟩
      have hx' : ∃ z : Int, x = .int z := by
        simp only [List.mem_cons, List.not_mem_nil, or_false] at hx
        rcases hx with h | h | h | h | h | h | h | h | h | h | h | h | h | h | h <;> exact ⟨_, h⟩
      obtain ⟨z, rfl⟩ := hx'
      exact ⟨z, rfl, d.pen, (But.new hl).trans d.but⟩
    · rintro σ' H1 ⟨near, rfl, d1⟩
      refine ⟨fun σ' H' => ∃ (l : Addr) (xs : List V), σ' = [some (.ref p), some (.int near), some (.ref l)] ∧ Drew p c H H' (n + 5) ∧ H' l = some (.lst xs) ∧ l ≠ p ∧ xs.length = 6 ∧ ∀ x ∈ xs, ∃ z : Int, x = .int z, ?_, ?_⟩
      · refine ⟨_, rfl, p, c, n + 1, _, rfl, d1.pen, by omega, by omega, by omega, fun r1 H2 _ _ d2 => ?_⟩
        refine ⟨_, rfl, p, c, n + 2, _, rfl, d2.pen, by omega, by omega, by omega, fun r2 H3 _ _ d3 => ?_⟩
        refine ⟨_, rfl, p, c, n + 3, _, rfl, d3.pen, by omega, by omega, by omega, fun r3 H4 _ _ d4 => ?_⟩
        refine ⟨_, rfl, _, rfl, p, c, n + 4, _, rfl, d4.pen, by omega, by omega, by omega, fun r4 H5 _ _ d5 => ?_⟩
        refine ⟨_, _, rfl, rfl, _, _, rfl, rfl, by show 6 ≤ sizeLine; decide, fun l hl => ?_⟩
        have d := (((d1.trans d2).trans d3).trans d4).trans d5
        refine ⟨l, _, rfl, d.keep (Same.new hl), upd_same, Ne.symm (d.pen.ne hl), rfl, fun x hx => ?_⟩
        simp only [List.mem_cons, List.not_mem_nil, or_false] at hx
        rcases hx with h | h | h | h | h | h <;> exact ⟨_, h⟩
      · rintro σ' H2 ⟨l, xs, rfl, d2, hl, nlp, hlen, hints⟩
        refine ⟨_, rfl, _, rfl, p, c, l, n + 5, xs, rfl, d2.pen, SqL.of hl, nlp, (by intro e; rw [e] at hlen; cases hlen), by omega, by omega, fun x H3 hx d3 => ?_⟩
        obtain ⟨z, rfl⟩ := hints x hx
        refine ⟨_, _, rfl, _, _, rfl, ?_⟩
        have e : ∃ k : Nat, k ≤ 9999 ∧ (if (if z < 9999 then z else 9999) > 0 then (if z < 9999 then z else 9999) else 0) = ((k : Nat) : Int) := by
          refine ⟨(if (if z < 9999 then z else 9999) > 0 then (if z < 9999 then z else 9999) else 0).toNat, ?_, ?_⟩ <;> split <;> split <;> omega
        obtain ⟨k, hk, ek⟩ := e
        have := q k H3 hk (d2.trans ⟨d3.pen.mono (by omega), d3.but⟩)
        rw [← ek] at this
        exact this
theorem ok_law_draw_text (T : Txt K mg) : FnOk P w K mg base CX0 4 T.f_law_draw_text T.d_law_draw_text ["pen", "least", "most"] sp_law_draw_text := by
  refine T.F_law_draw_text.ok sc_law_draw_text (fun vs H Q E h => ?_) (fun cdv A outer s H vs Q E hr h => ?_)
  · obtain ⟨p, c, n, a, b, rfl, _⟩ := h
    rfl
  · obtain ⟨p, c, n, a, b, rfl, hp, hn, ha1, hab, hb, q⟩ := h
    refine ⟨_, (pss_cons (ps_set (i := 3) sc_law_draw_text.nd rfl (Or.inl rfl) (pe_call (ok_law_one_of T) (hr.mono (by decide)) rfl T.g_law_one_of T.F_law_one_of.kp T.b_law_one_of .nil pass0 (pa_cons (pv 0) (pa_cons (pe_lst (pa_cons (pv 1) (pa_cons (pv 2) (pa_cons (pe_op op_add (pv 1) (pe_call (ok_law_take T) (hr.mono (by decide)) rfl T.g_law_take T.F_law_take.kp T.b_law_take .nil pass0 (pa_cons (pv 0) (pa_cons (pe_op op_add (pe_op op_sub (pv 2) (pv 1)) pe_int) pa_nil)))) (pa_cons (pe_callB (call_min2 rfl) rfl T.z_min boot_min (pa_cons (pv 2) (pa_cons (pe_op op_add (pv 1) pe_int) pa_nil))) (pa_cons (pe_callB (call_min2 rfl) rfl T.z_min boot_min (pa_cons (pv 2) (pa_cons pe_int pa_nil))) pa_nil)))))) pa_nil))))
      (Evl.pss_cut (ps_set (i := 3) sc_law_draw_text.nd rfl (Or.inl rfl) (pe_callB (call_max2 rfl) rfl T.z_max boot_max (pa_cons (pv 1) (pa_cons (pv 3) pa_nil))))
      (pss_cons (ps_if (pt_cmpR op_eq (pe_call (ok_law_take T) (hr.mono (by decide)) rfl T.g_law_take T.F_law_take.kp T.b_law_take .nil pass0 (pa_cons (pv 0) (pa_cons pe_int pa_nil))) pe_int (nomark _)) (pss_one (ps_ret (pe_slice sl_str (pe_op op_mul_str (pe_call (ok_law_one_of T) (hr.mono (by decide)) rfl T.g_law_one_of T.F_law_one_of.kp T.b_law_one_of .nil pass0 (pa_cons (pv 0) (pa_cons (pe_lst (pa_cons pe_str (pa_cons pe_str (pa_cons pe_str (pa_cons pe_str (pa_cons pe_str pa_nil)))))) pa_nil))) pe_int) po_none (po_some (pv 3))))) pss_nil)
      (pss_one (ps_ret (pe_join pe_str (pe_lc (own := [("k", 4)]) (g := (gName 4)) (tt := tYes)  rfl sc_law_draw_text.nd (pi_range1 rfl T.z_range (pa_cons (pv 3) pa_nil)) (blkOk_by (own := [("k", 4)]) (N := ["pen", "least", "most", "size", "k"]) (sc := defScope s_law_draw_text) (by decide +kernel)) (fun _ _ _ _ _ => (pg_name (i := 4) sc_law_draw_text.nd rfl (Or.inl rfl))) (fun _ _ _ _ _ => pts_nil) (fun _ _ _ _ _ => (pe_ix ix_str (pe_call0 (ok_law_signs T) (hr.mono (by decide)) rfl T.g_law_signs T.F_law_signs.kp T.b_law_signs .nil pass0) (pe_call (ok_law_take T) (hr.mono (by decide)) rfl T.g_law_take T.F_law_take.kp T.b_law_take .nil pass0 (pa_cons (pv 0) (pa_cons pe_int pa_nil))) (fun _ _ => rfl)))))))))), ?_⟩
    refine ⟨_, rfl, _, rfl, _, rfl, _, rfl, _, rfl, _, rfl, _, rfl, _, _, rfl, rfl, _, _, rfl, rfl, p, c, n, _, rfl, hp, by omega, by omega, by omega, fun r H1 h0 h1 d1 => ?_⟩
    refine ⟨_, _, rfl, rfl, _, rfl, _, rfl, _, _, rfl, rfl, _, _, rfl, _, rfl, _, _, rfl, by show 5 ≤ sizeLine; decide, fun l hl => ?_⟩
    refine ⟨p, c, l, n + 1, _, rfl, d1.pen.keep (Same.new hl), SqL.of upd_same, Ne.symm (d1.pen.ne hl), by simp, by simp, by omega, fun x H2 hx d2 => ?_⟩
    have hx' : ∃ z : Int, x = .int z ∧ 0 ≤ z ∧ z ≤ b := by
      simp only [List.mem_cons, List.not_mem_nil, or_false] at hx
      rcases hx with h | h | h | h | h
      · exact ⟨_, h, by omega, by omega⟩
      · exact ⟨_, h, by omega, by omega⟩
      · exact ⟨_, h, by omega, by omega⟩
      · exact ⟨_, h, by split <;> omega, by split <;> omega⟩
      · exact ⟨_, h, by split <;> omega, by split <;> omega⟩
    obtain ⟨z, rfl, hz0, hz1⟩ := hx'
    have d12 : Drew p c H H2 (n + 2) := ⟨d2.pen, (d1.but.trans (But.new hl)).trans d2.but⟩
    refine ⟨fun σ' H' => ∃ k : Nat, σ' = [some (.ref p), some (.int (a : Nat)), some (.int (b : Nat)), some (.int (k : Nat)), none] ∧ a ≤ k ∧ k ≤ b ∧ H2 = H', ?_, ?_⟩
    · refine ⟨_, rfl, _, rfl, _, _, rfl, ?_⟩
      have e : (if z > (a : Int) then z else (a : Int)) = (((if z > (a : Int) then z else (a : Int)).toNat : Nat) : Int) := by split <;> omega
      refine ⟨(if z > (a : Int) then z else (a : Int)).toNat, ?_, ?_, ?_, rfl⟩
      · rw [← e]; rfl
      · split <;> omega
      · split <;> omega
    · rintro σ' H' ⟨k, rfl, hk0, hk1, rfl⟩
      refine ⟨_, rfl, p, c, n + 2, _, rfl, d12.pen, by omega, by omega, by omega, fun r3 H3 h30 h31 d3 => ?_⟩
      have d123 := d12.trans d3
      refine ⟨rfl, _, rfl, ?_⟩
      refine ifb (fun _ => ?_) (fun _ => ?_)
      · refine ⟨_, rfl, by show 5 ≤ sizeLine; decide, fun l2 hl2 => ?_⟩
        refine ⟨p, c, l2, n + 3, _, rfl, d123.pen.keep (Same.new hl2), SqL.of upd_same, Ne.symm (d123.pen.ne hl2), by simp, by simp, by omega, fun x H4 hx d4 => ?_⟩
        have hw : ∃ y ∈ textWords, x = .str y := by
          simp only [List.mem_cons, List.not_mem_nil, or_false] at hx
          rcases hx with h | h | h | h | h
          · exact ⟨_, by decide, h⟩
          · exact ⟨_, by decide, h⟩
          · exact ⟨_, by decide, h⟩
          · exact ⟨_, by decide, h⟩
          · exact ⟨_, by decide, h⟩
        obtain ⟨y, hy, rfl⟩ := hw
        have ok := List.all_eq_true.mp words_ok y hy
        simp only [Bool.and_eq_true, decide_eq_true_eq] at ok
        obtain ⟨⟨ok1, ok2⟩, ok3⟩ := ok
        refine ⟨y, 9, rfl, rfl, by decide, by decide, ok2, by omega, ?_⟩
        have hrl := rep_len y 9
        refine ⟨_, rfl, _, rfl, _, rfl, ?_, ?_⟩
        · exact len100 (by show (repS y 9).length ≤ 100000; omega)
        · refine q _ H4 ?_ ⟨d4.pen.mono (by omega), (d123.but.trans (But.new hl2)).trans d4.but⟩
          have hl9 : (repS y 9).cps.toList.length = 9 * y.length := by rw [← str_len]; exact hrl
          refine txt_cut (x := repS y 9) ?_ ⟨ha1, hk0, hk1⟩ (rep_all ok1)
          omega
      · refine ⟨⟨_, rfl⟩, _, rfl, _, rfl, by omega, by omega, fun D hD => ?_⟩
        refine lc_gen walk_range (fun i ys H' => Drew p c H3 H' (n + 3 + i) ∧ ∃ cs : List Nat, ys = cs.map (fun c => V.str ⟨#[c]⟩) ∧ cs.all isChar = true) (by omega) ?_ (fun _ _ _ _ => True.intro) ?_ ?_
        · exact ⟨⟨(d123.pen.upd (d123.pen.ne hD) (d123.pen.nec hD)).mono (by omega), But.new hD⟩, [], rfl, rfl⟩
        · rintro i ys x H' H'' Q' Z hi hl hDl ⟨d4, cs, rfl, hcs⟩ ⟨rfl, rfl⟩ q'
          refine ⟨rfl, yesI ?_⟩
          refine ⟨rfl, _, rfl, p, c, n + 3 + i, _, rfl, d4.pen, by omega, by omega, by omega, fun r5 H5 h50 h51 d5 => ?_⟩
          have hr5 : r5.toNat < charCodes.length := by
            have : charCodes.length = 43 := rfl
            omega
          have e5 : charCodes[r5.toNat]? = some charCodes[r5.toNat] := List.getElem?_eq_getElem hr5
          have e6 : signs.cps.toList[r5.toNat]? = some charCodes[r5.toNat] := by rw [signs_cps]; exact e5
          refine ⟨signs, r5, charCodes[r5.toNat], rfl, rfl, by decide, at_ofN (j := r5.toNat) (by omega) e6, ?_⟩
          have npD : p ≠ D := d123.pen.ne hD
          have ncD : c ≠ D := d123.pen.nec hD
          refine q' _ H5 (d5.but D _ (Ne.symm npD) hDl) ⟨⟨(d5.pen.upd npD ncD).mono (by omega), (d4.but.trans d5.but).put hD⟩, cs ++ [charCodes[r5.toNat]], ?_, ?_⟩
          · rw [List.map_append]; rfl
          · rw [List.all_append, hcs]
            have : isChar charCodes[r5.toNat] = true := List.contains_iff_mem.mpr (List.getElem_mem hr5)
            simp [this]
        · rintro ys H' hl hDl ⟨d4, cs, rfl, hcs⟩
          rw [List.length_map] at hl
          refine ⟨"", D, cs.map (fun c => (⟨#[c]⟩ : Str)), rfl, rfl, .inl (SqL.of (by rw [hDl, List.map_map]; rfl)), ?_, ?_⟩
          · have e0 : ("" : Str).length = 0 := rfl
            have e1 : ((cs.map (fun c => (⟨#[c]⟩ : Str))).map (·.length)).sum = cs.length := by
              rw [List.map_map]
              clear hcs hDl hl
              induction cs with
              | nil => rfl
              | cons a r ih => rw [List.map_cons, List.sum_cons, ih, List.length_cons]; show 1 + r.length = _; omega
            rw [e1, e0]
            omega
          · have ej : Txt.join "" (cs.map (fun c => (⟨#[c]⟩ : Str))) = ⟨cs.toArray⟩ := join_signs cs
            rw [ej]
            have e2 : (⟨cs.toArray⟩ : Str).length = cs.length := by show cs.toArray.size = _; simp
            refine q _ H' (txt_of (by omega) (by omega) ?_) (d123.trans (d4.mono (by omega)))
            show cs.toArray.toList.all isChar = true
            simpa using hcs

theorem in_signs (c : Nat) : decide (c ∈ signs.cps.toList) = isChar c := by
  rw [signs_cps]
  unfold isChar
  rw [Bool.eq_iff_iff, decide_eq_true_iff, List.contains_iff_mem]
theorem ok_law_one_of__str (T : Txt K mg) : FnOk P w K mg base CX0 3 T.f_law_one_of T.d_law_one_of ["pen", "some"] sp_one_str := by
  refine T.F_law_one_of.ok sc_law_one_of (fun vs H Q E h => ?_) (fun cdv A outer s H vs Q E hr h => ?_)
  · obtain ⟨p, c, n, z, rfl, _⟩ := h
    rfl
  · obtain ⟨p, c, n, z, rfl, hp, hz0, hz, hn, q⟩ := h
    refine ⟨_, (pss_one (ps_ret (pe_ix ix_str (pv 1) (pe_call (ok_law_take T) (hr.mono (by decide)) rfl T.g_law_take T.F_law_take.kp T.b_law_take .nil pass0 (pa_cons (pv 0) (pa_cons (pe_callB call_len rfl T.z_len boot_len (pa_cons (pv 1) pa_nil)) pa_nil))) (fun _ _ => rfl)))), ?_⟩
    refine ⟨_, rfl, _, rfl, _, rfl, _, _, rfl, ⟨len100 (by omega), rfl⟩, ?_⟩
    refine ⟨p, c, n, z.length, rfl, hp, by omega, by omega, hn, fun r H' h0 h1 d => ?_⟩
    have e0 : z.length = z.cps.toList.length := str_len z
    have hr' : r.toNat < z.cps.toList.length := by omega
    have er : r = ((r.toNat : Nat) : Int) := by omega
    refine ⟨z, r, z.cps.toList[r.toNat], rfl, rfl, len100 (by omega), ?_, ?_⟩
    · exact at_ofN er (List.getElem?_eq_getElem hr')
    · exact q _ H' (List.getElem_mem hr') d
theorem ok_law_wrong_text (T : Txt K mg) : FnOk P w K mg base CX0 5 T.f_law_wrong_text T.d_law_wrong_text ["pen"] (sp_drawV K 60 1100 1 fun d => dTxt d 0 40 = false) := by
  refine T.F_law_wrong_text.ok sc_law_wrong_text (fun vs H Q E h => ?_) (fun cdv A outer s H vs Q E hr h => ?_)
  · obtain ⟨p, c, n, S, rfl, _⟩ := h
    rfl
  · obtain ⟨p, c, n, S, rfl, hp, hn, pS, hS, q⟩ := h
    refine ⟨_, (pss_cons (ps_set (i := 1) sc_law_wrong_text.nd rfl (Or.inl rfl) (pe_lst (pa_cons pe_non (pa_cons pe_int (pa_cons pe_bl (pa_cons (pe_lst (pa_cons pe_str pa_nil)) (pa_cons (pe_tup (pa_cons pe_str pa_nil)) (pa_cons pe_str (pa_cons pe_str (pa_cons (pe_op op_mul_str pe_str pe_int) (pa_cons pe_dnewK pa_nil)))))))))))
      (pss_cons (ps_set (i := 2) sc_law_wrong_text.nd rfl (Or.inl rfl) pe_str)
      (pss_cons (ps_set (i := 3) sc_law_wrong_text.nd rfl (Or.inl rfl) (pe_call (ok_law_draw_text T) (hr.mono (by decide)) rfl T.g_law_draw_text T.F_law_draw_text.kp T.b_law_draw_text .nil pass0 (pa_cons (pv 0) (pa_cons pe_int (pa_cons pe_int pa_nil)))))
      (pss_cons (ps_set (i := 4) sc_law_wrong_text.nd rfl (Or.inl rfl) (pe_call (ok_law_take T) (hr.mono (by decide)) rfl T.g_law_take T.F_law_take.kp T.b_law_take .nil pass0 (pa_cons (pv 0) (pa_cons (pe_callB call_len rfl T.z_len boot_len (pa_cons (pv 3) pa_nil)) pa_nil))))
      (pss_cons (ps_set (i := 5) sc_law_wrong_text.nd rfl (Or.inl rfl) (pe_op op_add_str (pe_op op_add_str (pe_slice sl_str (pv 3) po_none (po_some (pv 4))) (pe_call (ok_law_one_of__str T) (hr.mono (by decide)) rfl T.g_law_one_of T.F_law_one_of.kp T.b_law_one_of .nil pass0 (pa_cons (pv 0) (pa_cons (pv 2) pa_nil)))) (pe_slice sl_str (pv 3) (po_some (pe_op op_add (pv 4) pe_int)) po_none)))
      (pss_one (ps_ret (pe_call (ok_law_one_of T) (hr.mono (by decide)) rfl T.g_law_one_of T.F_law_one_of.kp T.b_law_one_of .nil pass0 (pa_cons (pv 0) (pa_cons (pe_op op_cat (pv 1) (pe_op op_rep (pe_lst (pa_cons (pv 5) pa_nil)) pe_int)) pa_nil)))))))))), ?_⟩
    refine ⟨by show 1 ≤ sizeLine; decide, fun l1 hl1 => ?_⟩
    have g1 := new_lst (K := K) hl1 hS (.cons (.str "a") .nil)
    have p1 := hp.new (o := .lst [.str "a"]) hl1
    have s1 := Same.new (o := .lst [.str "a"]) hl1
    refine ⟨by show 1 ≤ sizeLine; decide, fun t1 ht1 => ?_⟩
    have g2 := new_tup (K := K) ht1 (hS.keep s1) (.cons (.str "a") .nil)
    have p2 := p1.new (o := .tup [.str "a"]) ht1
    have s2 := Same.new (o := .tup [.str "a"]) ht1
    refine ⟨"a", 41, rfl, rfl, by decide, by decide, by decide, by decide, fun d1 hd1 => ?_⟩
    have g3 := new_dic (K := K) hd1 ((hS.keep s1).keep s2)
    have p3 := p2.new (o := .dK []) hd1
    have s3 := Same.new (o := .dK []) hd1
    refine ⟨by show 9 ≤ sizeLine; decide, fun L hL => ?_⟩
    have p4 := p3.new (o := .lst [.non, .int 7, .bl true, .ref l1, .ref t1, .str "a\n", .str "a\t", .str (repS "a" 41), .ref d1]) hL
    have s4 := Same.new (o := .lst [.non, .int 7, .bl true, .ref l1, .ref t1, .str "a\n", .str "a\t", .str (repS "a" 41), .ref d1]) hL
    have gL : upd (upd (upd (upd H l1 (.lst [.str "a"])) t1 (.tup [.str "a"])) d1 (.dK [])) L (.lst [.non, .int 7, .bl true, .ref l1, .ref t1, .str "a\n", .str "a\t", .str (repS "a" 41), .ref d1]) L = some (.lst [.non, .int 7, .bl true, .ref l1, .ref t1, .str "a\n", .str "a\t", .str (repS "a" 41), .ref d1]) := upd_same
    have nLp : L ≠ p := fun e => p3.some_ (e ▸ hL)
    have A := DvAll.cons .non (.cons (.int 7) (.cons (.bl true) (.cons (g1.keep ((s2.off.trans s3.off).trans s4.off)) (.cons (g2.keep (s3.off.trans s4.off)) (.cons (.str "a\n") (.cons (.str "a\t") (.cons (.str (repS "a" 41)) (.cons (g3.keep s4.off) .nil))))))))
    have s0 := ((s1.trans s2).trans s3).trans s4
    refine ⟨_, rfl, p, c, n, 1, 40, rfl, p4, by omega, by decide, by decide, by decide, fun x H5 hx d5 => ?_⟩
    have hxl : 0 < x.length ∧ x.length ≤ 40 := by
      have h' : (decide ((1 : Int) ≤ (x.length : Int)) && decide ((x.length : Int) ≤ 40) && x.cps.toList.all isChar) = true := hx
      simp only [Bool.and_eq_true, decide_eq_true_eq] at h'
      omega
    refine ⟨_, rfl, _, rfl, _, _, rfl, ⟨len100 (by omega), rfl⟩, p, c, n + 50, _, rfl, d5.pen, by omega, by omega, by omega, fun r H6 hr0 hr1 d6 => ?_⟩
    refine ⟨_, rfl, _, rfl, _, rfl, x, rfl, len100 (by omega), _, rfl, _, rfl, p, c, n + 51, otherSigns, rfl, d6.pen, by decide, by decide, by omega, fun z H7 hz d7 => ?_⟩
    have l1' := cutS_len x none (some r)
    have lz : (⟨#[z]⟩ : Str).length = 1 := rfl
    refine ⟨_, _, rfl, rfl, by rw [sizeLine_eq]; omega, ?_⟩
    refine ⟨_, rfl, _, rfl, _, _, rfl, rfl, _, rfl, x, rfl, len100 (by omega), ?_⟩
    have l2' := cutS_len x (some (r + 1)) none
    refine ⟨_, _, rfl, rfl, by rw [strLen_append, sizeLine_eq]; omega, ?_⟩
    refine ⟨_, rfl, _, rfl, _, rfl, by show 1 ≤ sizeLine; decide, fun b1 hb1 => ?_⟩
    have p7 := d7.pen
    have n1 : L ≠ b1 := ne_of_none (d7.but _ _ nLp (d6.but _ _ nLp (d5.but _ _ nLp gL))) hb1
    refine ⟨b1, 9, _, rfl, rfl, upd_same, by decide, by decide, by show 9 ≤ sizeLine; decide, fun b2 hb2 => ?_⟩
    have gL7 := d7.but _ _ nLp (d6.but _ _ nLp (d5.but _ _ nLp gL))
    have n2 : L ≠ b2 := ne_of_none (by rw [upd_ne n1]; exact gL7) hb2
    refine ⟨L, b2, _, _, rfl, rfl, by rw [upd_ne n2, upd_ne n1]; exact gL7, upd_same, by show 18 ≤ sizeLine; decide, fun b3 hb3 => ?_⟩
    have d567 := (d5.trans d6).trans d7
    have sb : Same H7 _ := ((Same.new hb1).trans (Same.new hb2)).trans (Same.new (o := .lst ([.non, .int 7, .bl true, .ref l1, .ref t1, .str "a\n", .str "a\t", .str (repS "a" 41), .ref d1] ++ (List.replicate (9 : Int).toNat [V.str (cutS x none (some r) ++ ⟨#[z]⟩ ++ cutS x (some (r + 1)) none)]).flatten)) hb3)
    refine ⟨p, c, b3, n + 52, _, rfl, d567.pen.keep sb, SqL.of upd_same, ?_, by simp, by show 18 ≤ 1000; decide, by omega, fun v H8 hv d8 => ?_⟩
    · exact fun e => (d567.pen.some_) (e ▸ ((Same.new hb1).trans (Same.new hb2)).free hb3)
    have A8 := A.keep (((d567.off pS).trans sb.off).trans (d8.off pS))
    have hbad : Dv K (OffS S H8) (.str (cutS x none (some r) ++ ⟨#[z]⟩ ++ cutS x (some (r + 1)) none)) (.str (cutS x none (some r) ++ ⟨#[z]⟩ ++ cutS x (some (r + 1)) none)) := .str _
    have B : DvAll K (OffS S H8) ((List.replicate (9 : Int).toNat [V.str (cutS x none (some r) ++ ⟨#[z]⟩ ++ cutS x (some (r + 1)) none)]).flatten) (List.replicate 9 (.str (cutS x none (some r) ++ ⟨#[z]⟩ ++ cutS x (some (r + 1)) none))) := DvAll.rep hbad 9
    obtain ⟨d, hd, hdv⟩ := (A8.app B).mem hv
    have zd : Sz 1100 1 d := by
      rcases List.mem_append.mp hd with hd | hd
      · simp only [List.mem_cons, List.not_mem_nil, or_false] at hd
        rcases hd with rfl | rfl | rfl | rfl | rfl | rfl | rfl | rfl | rfl
        · exact ⟨rfl, by decide, by decide⟩
        · exact (sz_int (by decide)).mono (by decide) (by decide)
        · exact ⟨rfl, by decide, by decide⟩
        · exact ⟨by decide, by decide, by decide⟩
        · exact ⟨by decide, by decide, by decide⟩
        · exact ⟨by decide, by decide, by decide⟩
        · exact ⟨by decide, by decide, by decide⟩
        · exact ⟨by decide, by decide, by decide⟩
        · exact ⟨by decide, by decide, by decide⟩
      · rw [(List.mem_replicate.mp hd).2]
        refine (sz_str ?_ (by rw [strLen_append, strLen_append]; omega) (Nat.le_refl _)).mono ?_ (by decide)
        · refine small_app (small_app (small_cut (chars_small (txt_all hx))) ?_) (small_cut (chars_small (txt_all hx)))
          have := List.all_eq_true.mp other_small z hz
          show [z].all _ = true
          rw [List.all_cons, this]; rfl
        · rw [strLen_append, strLen_append]; omega
    have hno : dTxt d 0 40 = false := by
      rcases List.mem_append.mp hd with hd | hd
      · simp only [List.mem_cons, List.not_mem_nil, or_false] at hd
        rcases hd with rfl | rfl | rfl | rfl | rfl | rfl | rfl | rfl | rfl <;> decide +kernel
      · rw [(List.mem_replicate.mp hd).2]
        exact no_txt (List.mem_append_left _ (List.mem_append_right _ (List.mem_singleton.mpr rfl))) (other_none z hz)
    exact q v d H8 hdv zd hno ⟨d8.pen.mono (by omega), ((But.of s0).trans (d567.but.trans (But.of sb))).trans d8.but⟩

theorem ok_NoOctets_init (T : Txt K mg) : FnOk P w K mg base CX0 1 T.f_NoOctets_init T.d_NoOctets_init ["self", "place"] (sp_err T.C_NoOctets "place") := by
  refine T.F_NoOctets_init.ok sc_NoOctets_init (fun vs H Q E h => ?_) (fun cdv A outer s H vs Q E hr h => ?_)
  · obtain ⟨a, k, rfl, _⟩ := h
    rfl
  · obtain ⟨a, k, rfl, hk, ha, q⟩ := h
    refine ⟨_, (pss_cons (ps_expr (pe_feinit T.B_FieldError rfl (pa_cons (pv 0) (pa_cons (pe_joined (.cons pe_str (.cons (pe_fmt (pv 1)) .nil))) pa_nil))))
      (pss_one (ps_ost (pv 0) (pv 1)))), ?_⟩
    have ht := toString_le hk
    have hz : (Str.empty ++ (("the octets cannot be read at the place " : String) : Str)).length = 39 := by decide +kernel
    refine ⟨_, rfl, _, rfl, by rw [hz, sizeLine_eq]; decide, _, rfl, .inr ⟨k, rfl, log_le hk, _, rfl, ?_, ?_⟩⟩
    · rw [strLen_append, hz, sizeLine_eq]
      omega
    refine ⟨a, T.C_NoOctets, _, rfl, by show 1 ≤ 1000; decide, T.E_NoOctets.ox, ha, ?_⟩
    exact ⟨_, rfl, _, rfl, a, T.C_NoOctets, rfl, T.E_NoOctets.ox, T.E_NoOctets.no, .inl ⟨ha, q⟩⟩
theorem ok_BadTable_init (T : Txt K mg) : FnOk P w K mg base CX0 1 T.f_BadTable_init T.d_BadTable_init ["self", "number"] (sp_err T.C_BadTable "number") := by
  refine T.F_BadTable_init.ok sc_BadTable_init (fun vs H Q E h => ?_) (fun cdv A outer s H vs Q E hr h => ?_)
  · obtain ⟨a, k, rfl, _⟩ := h
    rfl
  · obtain ⟨a, k, rfl, hk, ha, q⟩ := h
    refine ⟨_, (pss_cons (ps_expr (pe_feinit T.B_FieldError rfl (pa_cons (pv 0) (pa_cons (pe_joined (.cons pe_str (.cons (pe_fmt (pv 1)) (.cons pe_str .nil)))) pa_nil))))
      (pss_one (ps_ost (pv 0) (pv 1)))), ?_⟩
    have ht := toString_le hk
    have hz : (Str.empty ++ (("the instruction " : String) : Str)).length = 16 := by decide +kernel
    have hz2 : (((" cannot be carried out" : String) : Str)).length = 22 := by decide +kernel
    refine ⟨_, rfl, _, rfl, by rw [hz, sizeLine_eq]; decide, _, rfl, .inr ⟨k, rfl, log_le hk, _, rfl, ?_, _, rfl, ?_, ?_⟩⟩
    · rw [strLen_append, hz, sizeLine_eq]
      omega
    · rw [strLen_append, strLen_append, hz, hz2, sizeLine_eq]; omega
    refine ⟨a, T.C_BadTable, _, rfl, by show 1 ≤ 1000; decide, T.E_BadTable.ox, ha, ?_⟩
    exact ⟨_, rfl, _, rfl, a, T.C_BadTable, rfl, T.E_BadTable.ox, T.E_BadTable.no, .inl ⟨ha, q⟩⟩
theorem ok_BadBlock_init (T : Txt K mg) : FnOk P w K mg base CX0 1 T.f_BadBlock_init T.d_BadBlock_init ["self", "stream"] (sp_err T.C_BadBlock "stream") := by
  refine T.F_BadBlock_init.ok sc_BadBlock_init (fun vs H Q E h => ?_) (fun cdv A outer s H vs Q E hr h => ?_)
  · obtain ⟨a, k, rfl, _⟩ := h
    rfl
  · obtain ⟨a, k, rfl, hk, ha, q⟩ := h
    refine ⟨_, (pss_cons (ps_expr (pe_feinit T.B_FieldError rfl (pa_cons (pv 0) (pa_cons (pe_joined (.cons pe_str (.cons (pe_fmt (pv 1)) (.cons pe_str .nil)))) pa_nil))))
      (pss_one (ps_ost (pv 0) (pv 1)))), ?_⟩
    have ht := toString_le hk
    have hz : (Str.empty ++ (("a block of the stream " : String) : Str)).length = 22 := by decide +kernel
    have hz2 : (((" cannot be read" : String) : Str)).length = 15 := by decide +kernel
    refine ⟨_, rfl, _, rfl, by rw [hz, sizeLine_eq]; decide, _, rfl, .inr ⟨k, rfl, log_le hk, _, rfl, ?_, _, rfl, ?_, ?_⟩⟩
    · rw [strLen_append, hz, sizeLine_eq]
      omega
    · rw [strLen_append, strLen_append, hz, hz2, sizeLine_eq]; omega
    refine ⟨a, T.C_BadBlock, _, rfl, by show 1 ≤ 1000; decide, T.E_BadBlock.ox, ha, ?_⟩
    exact ⟨_, rfl, _, rfl, a, T.C_BadBlock, rfl, T.E_BadBlock.ox, T.E_BadBlock.no, .inl ⟨ha, q⟩⟩
theorem ok_TooMany_init (T : Txt K mg) : FnOk P w K mg base CX0 1 T.f_TooMany_init T.d_TooMany_init ["self", "stream"] (sp_err T.C_TooMany "stream") := by
  refine T.F_TooMany_init.ok sc_TooMany_init (fun vs H Q E h => ?_) (fun cdv A outer s H vs Q E hr h => ?_)
  · obtain ⟨a, k, rfl, _⟩ := h
    rfl
  · obtain ⟨a, k, rfl, hk, ha, q⟩ := h
    refine ⟨_, (pss_cons (ps_expr (pe_feinit T.B_FieldError rfl (pa_cons (pv 0) (pa_cons (pe_joined (.cons pe_str (.cons (pe_fmt (pv 1)) .nil))) pa_nil))))
      (pss_one (ps_ost (pv 0) (pv 1)))), ?_⟩
    have ht := toString_le hk
    have hz : (Str.empty ++ (("too many streams would wait with the stream " : String) : Str)).length = 44 := by decide +kernel
    refine ⟨_, rfl, _, rfl, by rw [hz, sizeLine_eq]; decide, _, rfl, .inr ⟨k, rfl, log_le hk, _, rfl, ?_, ?_⟩⟩
    · rw [strLen_append, hz, sizeLine_eq]
      omega
    refine ⟨a, T.C_TooMany, _, rfl, by show 1 ≤ 1000; decide, T.E_TooMany.ox, ha, ?_⟩
    exact ⟨_, rfl, _, rfl, a, T.C_TooMany, rfl, T.E_TooMany.ox, T.E_TooMany.no, .inl ⟨ha, q⟩⟩
theorem ok_BadAnswer_init (T : Txt K mg) : FnOk P w K mg base CX0 1 T.f_BadAnswer_init T.d_BadAnswer_init ["self", "number"] (sp_err T.C_BadAnswer "number") := by
  refine T.F_BadAnswer_init.ok sc_BadAnswer_init (fun vs H Q E h => ?_) (fun cdv A outer s H vs Q E hr h => ?_)
  · obtain ⟨a, k, rfl, _⟩ := h
    rfl
  · obtain ⟨a, k, rfl, hk, ha, q⟩ := h
    refine ⟨_, (pss_cons (ps_expr (pe_feinit T.B_FieldError rfl (pa_cons (pv 0) (pa_cons (pe_joined (.cons pe_str (.cons (pe_fmt (pv 1)) (.cons pe_str .nil)))) pa_nil))))
      (pss_one (ps_ost (pv 0) (pv 1)))), ?_⟩
    have ht := toString_le hk
    have hz : (Str.empty ++ (("the answer " : String) : Str)).length = 11 := by decide +kernel
    have hz2 : (((" cannot be" : String) : Str)).length = 10 := by decide +kernel
    refine ⟨_, rfl, _, rfl, by rw [hz, sizeLine_eq]; decide, _, rfl, .inr ⟨k, rfl, log_le hk, _, rfl, ?_, _, rfl, ?_, ?_⟩⟩
    · rw [strLen_append, hz, sizeLine_eq]
      omega
    · rw [strLen_append, strLen_append, hz, hz2, sizeLine_eq]; omega
    refine ⟨a, T.C_BadAnswer, _, rfl, by show 1 ≤ 1000; decide, T.E_BadAnswer.ox, ha, ?_⟩
    exact ⟨_, rfl, _, rfl, a, T.C_BadAnswer, rfl, T.E_BadAnswer.ox, T.E_BadAnswer.no, .inl ⟨ha, q⟩⟩
theorem ok_BadOrder_init (T : Txt K mg) : FnOk P w K mg base CX0 1 T.f_BadOrder_init T.d_BadOrder_init ["self", "number"] (sp_err T.C_BadOrder "number") := by
  refine T.F_BadOrder_init.ok sc_BadOrder_init (fun vs H Q E h => ?_) (fun cdv A outer s H vs Q E hr h => ?_)
  · obtain ⟨a, k, rfl, _⟩ := h
    rfl
  · obtain ⟨a, k, rfl, hk, ha, q⟩ := h
    refine ⟨_, (pss_cons (ps_expr (pe_feinit T.B_FieldError rfl (pa_cons (pv 0) (pa_cons (pe_joined (.cons pe_str (.cons (pe_fmt (pv 1)) (.cons pe_str .nil)))) pa_nil))))
      (pss_one (ps_ost (pv 0) (pv 1)))), ?_⟩
    have ht := toString_le hk
    have hz : (Str.empty ++ (("the step " : String) : Str)).length = 9 := by decide +kernel
    have hz2 : (((" cannot be taken" : String) : Str)).length = 16 := by decide +kernel
    refine ⟨_, rfl, _, rfl, by rw [hz, sizeLine_eq]; decide, _, rfl, .inr ⟨k, rfl, log_le hk, _, rfl, ?_, _, rfl, ?_, ?_⟩⟩
    · rw [strLen_append, hz, sizeLine_eq]
      omega
    · rw [strLen_append, strLen_append, hz, hz2, sizeLine_eq]; omega
    refine ⟨a, T.C_BadOrder, _, rfl, by show 1 ≤ 1000; decide, T.E_BadOrder.ox, ha, ?_⟩
    exact ⟨_, rfl, _, rfl, a, T.C_BadOrder, rfl, T.E_BadOrder.ox, T.E_BadOrder.no, .inl ⟨ha, q⟩⟩
theorem ok_NoAnswer_init (T : Txt K mg) : FnOk P w K mg base CX0 1 T.f_NoAnswer_init T.d_NoAnswer_init ["self", "event"] (sp_err T.C_NoAnswer "event") := by
  refine T.F_NoAnswer_init.ok sc_NoAnswer_init (fun vs H Q E h => ?_) (fun cdv A outer s H vs Q E hr h => ?_)
  · obtain ⟨a, k, rfl, _⟩ := h
    rfl
  · obtain ⟨a, k, rfl, hk, ha, q⟩ := h
    refine ⟨_, (pss_cons (ps_expr (pe_feinit T.B_FieldError rfl (pa_cons (pv 0) (pa_cons (pe_joined (.cons pe_str (.cons (pe_fmt (pv 1)) (.cons pe_str .nil)))) pa_nil))))
      (pss_one (ps_ost (pv 0) (pv 1)))), ?_⟩
    have ht := toString_le hk
    have hz : (Str.empty ++ (("no order makes the answer of the event " : String) : Str)).length = 39 := by decide +kernel
    have hz2 : (((" take place" : String) : Str)).length = 11 := by decide +kernel
    refine ⟨_, rfl, _, rfl, by rw [hz, sizeLine_eq]; decide, _, rfl, .inr ⟨k, rfl, log_le hk, _, rfl, ?_, _, rfl, ?_, ?_⟩⟩
    · rw [strLen_append, hz, sizeLine_eq]
      omega
    · rw [strLen_append, strLen_append, hz, hz2, sizeLine_eq]; omega
    refine ⟨a, T.C_NoAnswer, _, rfl, by show 1 ≤ 1000; decide, T.E_NoAnswer.ox, ha, ?_⟩
    exact ⟨_, rfl, _, rfl, a, T.C_NoAnswer, rfl, T.E_NoAnswer.ox, T.E_NoAnswer.no, .inl ⟨ha, q⟩⟩

def cos17 {K : PySem.W.Frag} {mg : Str → Option Value} (T : Txt K mg) : List (Addr × Option Str) := [(T.C_NoSetting, none), (T.C_NoField, none), (T.C_NoValue, none), (T.C_NoNumber, none), (T.C_NoStream, none), (T.C_NoOctetList, none), (T.C_NoLog, none), (T.C_Held, none), (T.C_TooGreat, none), (T.C_TooManyStates, none), (T.C_NoOctets, some "place"), (T.C_BadTable, some "number"), (T.C_BadBlock, some "stream"), (T.C_TooMany, some "stream"), (T.C_BadAnswer, some "number"), (T.C_BadOrder, some "number"), (T.C_NoAnswer, some "event")]
theorem cos_ok {K : PySem.W.Frag} {mg : Str → Option Value} (T : Txt K mg) : ∀ co ∈ cos17 T, ExcC K co.1 ∧ PySem.W.kitOne K (.ref co.1) (.ref T.C_FieldError) = some true ∧ PySem.W.kitOne K (.ref co.1) (.type "ValueError") = some true := by
  intro co h
  simp only [cos17, List.mem_cons, List.not_mem_nil, or_false] at h
  rcases h with rfl | rfl | rfl | rfl | rfl | rfl | rfl | rfl | rfl | rfl | rfl | rfl | rfl | rfl | rfl | rfl | rfl
  · exact ⟨T.X_NoSetting.x, kit_root T.R_FieldError T.S_NoSetting, kit_ve T.V_NoSetting⟩
  · exact ⟨T.X_NoField.x, kit_root T.R_FieldError T.S_NoField, kit_ve T.V_NoField⟩
  · exact ⟨T.X_NoValue.x, kit_root T.R_FieldError T.S_NoValue, kit_ve T.V_NoValue⟩
  · exact ⟨T.X_NoNumber.x, kit_root T.R_FieldError T.S_NoNumber, kit_ve T.V_NoNumber⟩
  · exact ⟨T.X_NoStream.x, kit_root T.R_FieldError T.S_NoStream, kit_ve T.V_NoStream⟩
  · exact ⟨T.X_NoOctetList.x, kit_root T.R_FieldError T.S_NoOctetList, kit_ve T.V_NoOctetList⟩
  · exact ⟨T.X_NoLog.x, kit_root T.R_FieldError T.S_NoLog, kit_ve T.V_NoLog⟩
  · exact ⟨T.X_Held.x, kit_root T.R_FieldError T.S_Held, kit_ve T.V_Held⟩
  · exact ⟨T.X_TooGreat.x, kit_root T.R_FieldError T.S_TooGreat, kit_ve T.V_TooGreat⟩
  · exact ⟨T.X_TooManyStates.x, kit_root T.R_FieldError T.S_TooManyStates, kit_ve T.V_TooManyStates⟩
  · exact ⟨T.X_NoOctets.x, kit_root T.R_FieldError T.S_NoOctets, kit_ve T.V_NoOctets⟩
  · exact ⟨T.X_BadTable.x, kit_root T.R_FieldError T.S_BadTable, kit_ve T.V_BadTable⟩
  · exact ⟨T.X_BadBlock.x, kit_root T.R_FieldError T.S_BadBlock, kit_ve T.V_BadBlock⟩
  · exact ⟨T.X_TooMany.x, kit_root T.R_FieldError T.S_TooMany, kit_ve T.V_TooMany⟩
  · exact ⟨T.X_BadAnswer.x, kit_root T.R_FieldError T.S_BadAnswer, kit_ve T.V_BadAnswer⟩
  · exact ⟨T.X_BadOrder.x, kit_root T.R_FieldError T.S_BadOrder, kit_ve T.V_BadOrder⟩
  · exact ⟨T.X_NoAnswer.x, kit_root T.R_FieldError T.S_NoAnswer, kit_ve T.V_NoAnswer⟩
theorem kits17 {K : PySem.W.Frag} {mg : Str → Option Value} (T : Txt K mg) : ∀ k co, (cos17 T)[k]? = some co → Kit17 K co.1 [T.C_NoSetting, T.C_NoField, T.C_NoValue, T.C_NoNumber, T.C_NoStream, T.C_NoOctetList, T.C_NoLog, T.C_Held, T.C_TooGreat, T.C_TooManyStates, T.C_NoOctets, T.C_BadTable, T.C_BadBlock, T.C_TooMany, T.C_BadAnswer, T.C_BadOrder, T.C_NoAnswer] k := by
  intro k co h
  have e : k < 17 := (List.getElem?_eq_some_iff.mp h).1
  by_cases h0 : k = 0
  · subst h0; cases h; exact .mkB (bs := [true, false, false, false, false, false, false, false, false, false, false, false, false, false, false, false, false]) (by decide) (.cons (T.X_NoSetting.self T.U_NoSetting_NoSetting) ( .cons (T.X_NoField.not T.U_NoSetting_NoField T.U_NoField_NoField) ( .cons (T.X_NoValue.not T.U_NoSetting_NoValue T.U_NoValue_NoValue) ( .cons (T.X_NoNumber.not T.U_NoSetting_NoNumber T.U_NoNumber_NoNumber) ( .cons (T.X_NoStream.not T.U_NoSetting_NoStream T.U_NoStream_NoStream) ( .cons (T.X_NoOctetList.not T.U_NoSetting_NoOctetList T.U_NoOctetList_NoOctetList) ( .cons (T.X_NoLog.not T.U_NoSetting_NoLog T.U_NoLog_NoLog) ( .cons (T.X_Held.not T.U_NoSetting_Held T.U_Held_Held) ( .cons (T.X_TooGreat.not T.U_NoSetting_TooGreat T.U_TooGreat_TooGreat) ( .cons (T.X_TooManyStates.not T.U_NoSetting_TooManyStates T.U_TooManyStates_TooManyStates) ( .cons (T.X_NoOctets.not T.U_NoSetting_NoOctets T.U_NoOctets_NoOctets) ( .cons (T.X_BadTable.not T.U_NoSetting_BadTable T.U_BadTable_BadTable) ( .cons (T.X_BadBlock.not T.U_NoSetting_BadBlock T.U_BadBlock_BadBlock) ( .cons (T.X_TooMany.not T.U_NoSetting_TooMany T.U_TooMany_TooMany) ( .cons (T.X_BadAnswer.not T.U_NoSetting_BadAnswer T.U_BadAnswer_BadAnswer) ( .cons (T.X_BadOrder.not T.U_NoSetting_BadOrder T.U_BadOrder_BadOrder) ( .cons (T.X_NoAnswer.not T.U_NoSetting_NoAnswer T.U_NoAnswer_NoAnswer) ( .nil))))))))))))))))))
  by_cases h1 : k = 1
  · subst h1; cases h; exact .mkB (bs := [false, true, false, false, false, false, false, false, false, false, false, false, false, false, false, false, false]) (by decide) (.cons (T.X_NoSetting.not T.U_NoField_NoSetting T.U_NoSetting_NoSetting) ( .cons (T.X_NoField.self T.U_NoField_NoField) ( .cons (T.X_NoValue.not T.U_NoField_NoValue T.U_NoValue_NoValue) ( .cons (T.X_NoNumber.not T.U_NoField_NoNumber T.U_NoNumber_NoNumber) ( .cons (T.X_NoStream.not T.U_NoField_NoStream T.U_NoStream_NoStream) ( .cons (T.X_NoOctetList.not T.U_NoField_NoOctetList T.U_NoOctetList_NoOctetList) ( .cons (T.X_NoLog.not T.U_NoField_NoLog T.U_NoLog_NoLog) ( .cons (T.X_Held.not T.U_NoField_Held T.U_Held_Held) ( .cons (T.X_TooGreat.not T.U_NoField_TooGreat T.U_TooGreat_TooGreat) ( .cons (T.X_TooManyStates.not T.U_NoField_TooManyStates T.U_TooManyStates_TooManyStates) ( .cons (T.X_NoOctets.not T.U_NoField_NoOctets T.U_NoOctets_NoOctets) ( .cons (T.X_BadTable.not T.U_NoField_BadTable T.U_BadTable_BadTable) ( .cons (T.X_BadBlock.not T.U_NoField_BadBlock T.U_BadBlock_BadBlock) ( .cons (T.X_TooMany.not T.U_NoField_TooMany T.U_TooMany_TooMany) ( .cons (T.X_BadAnswer.not T.U_NoField_BadAnswer T.U_BadAnswer_BadAnswer) ( .cons (T.X_BadOrder.not T.U_NoField_BadOrder T.U_BadOrder_BadOrder) ( .cons (T.X_NoAnswer.not T.U_NoField_NoAnswer T.U_NoAnswer_NoAnswer) ( .nil))))))))))))))))))
  by_cases h2 : k = 2
  · subst h2; cases h; exact .mkB (bs := [false, false, true, false, false, false, false, false, false, false, false, false, false, false, false, false, false]) (by decide) (.cons (T.X_NoSetting.not T.U_NoValue_NoSetting T.U_NoSetting_NoSetting) ( .cons (T.X_NoField.not T.U_NoValue_NoField T.U_NoField_NoField) ( .cons (T.X_NoValue.self T.U_NoValue_NoValue) ( .cons (T.X_NoNumber.not T.U_NoValue_NoNumber T.U_NoNumber_NoNumber) ( .cons (T.X_NoStream.not T.U_NoValue_NoStream T.U_NoStream_NoStream) ( .cons (T.X_NoOctetList.not T.U_NoValue_NoOctetList T.U_NoOctetList_NoOctetList) ( .cons (T.X_NoLog.not T.U_NoValue_NoLog T.U_NoLog_NoLog) ( .cons (T.X_Held.not T.U_NoValue_Held T.U_Held_Held) ( .cons (T.X_TooGreat.not T.U_NoValue_TooGreat T.U_TooGreat_TooGreat) ( .cons (T.X_TooManyStates.not T.U_NoValue_TooManyStates T.U_TooManyStates_TooManyStates) ( .cons (T.X_NoOctets.not T.U_NoValue_NoOctets T.U_NoOctets_NoOctets) ( .cons (T.X_BadTable.not T.U_NoValue_BadTable T.U_BadTable_BadTable) ( .cons (T.X_BadBlock.not T.U_NoValue_BadBlock T.U_BadBlock_BadBlock) ( .cons (T.X_TooMany.not T.U_NoValue_TooMany T.U_TooMany_TooMany) ( .cons (T.X_BadAnswer.not T.U_NoValue_BadAnswer T.U_BadAnswer_BadAnswer) ( .cons (T.X_BadOrder.not T.U_NoValue_BadOrder T.U_BadOrder_BadOrder) ( .cons (T.X_NoAnswer.not T.U_NoValue_NoAnswer T.U_NoAnswer_NoAnswer) ( .nil))))))))))))))))))
  by_cases h3 : k = 3
  · subst h3; cases h; exact .mkB (bs := [false, false, false, true, false, false, false, false, false, false, false, false, false, false, false, false, false]) (by decide) (.cons (T.X_NoSetting.not T.U_NoNumber_NoSetting T.U_NoSetting_NoSetting) ( .cons (T.X_NoField.not T.U_NoNumber_NoField T.U_NoField_NoField) ( .cons (T.X_NoValue.not T.U_NoNumber_NoValue T.U_NoValue_NoValue) ( .cons (T.X_NoNumber.self T.U_NoNumber_NoNumber) ( .cons (T.X_NoStream.not T.U_NoNumber_NoStream T.U_NoStream_NoStream) ( .cons (T.X_NoOctetList.not T.U_NoNumber_NoOctetList T.U_NoOctetList_NoOctetList) ( .cons (T.X_NoLog.not T.U_NoNumber_NoLog T.U_NoLog_NoLog) ( .cons (T.X_Held.not T.U_NoNumber_Held T.U_Held_Held) ( .cons (T.X_TooGreat.not T.U_NoNumber_TooGreat T.U_TooGreat_TooGreat) ( .cons (T.X_TooManyStates.not T.U_NoNumber_TooManyStates T.U_TooManyStates_TooManyStates) ( .cons (T.X_NoOctets.not T.U_NoNumber_NoOctets T.U_NoOctets_NoOctets) ( .cons (T.X_BadTable.not T.U_NoNumber_BadTable T.U_BadTable_BadTable) ( .cons (T.X_BadBlock.not T.U_NoNumber_BadBlock T.U_BadBlock_BadBlock) ( .cons (T.X_TooMany.not T.U_NoNumber_TooMany T.U_TooMany_TooMany) ( .cons (T.X_BadAnswer.not T.U_NoNumber_BadAnswer T.U_BadAnswer_BadAnswer) ( .cons (T.X_BadOrder.not T.U_NoNumber_BadOrder T.U_BadOrder_BadOrder) ( .cons (T.X_NoAnswer.not T.U_NoNumber_NoAnswer T.U_NoAnswer_NoAnswer) ( .nil))))))))))))))))))
  by_cases h4 : k = 4
  · subst h4; cases h; exact .mkB (bs := [false, false, false, false, true, false, false, false, false, false, false, false, false, false, false, false, false]) (by decide) (.cons (T.X_NoSetting.not T.U_NoStream_NoSetting T.U_NoSetting_NoSetting) ( .cons (T.X_NoField.not T.U_NoStream_NoField T.U_NoField_NoField) ( .cons (T.X_NoValue.not T.U_NoStream_NoValue T.U_NoValue_NoValue) ( .cons (T.X_NoNumber.not T.U_NoStream_NoNumber T.U_NoNumber_NoNumber) ( .cons (T.X_NoStream.self T.U_NoStream_NoStream) ( .cons (T.X_NoOctetList.not T.U_NoStream_NoOctetList T.U_NoOctetList_NoOctetList) ( .cons (T.X_NoLog.not T.U_NoStream_NoLog T.U_NoLog_NoLog) ( .cons (T.X_Held.not T.U_NoStream_Held T.U_Held_Held) ( .cons (T.X_TooGreat.not T.U_NoStream_TooGreat T.U_TooGreat_TooGreat) ( .cons (T.X_TooManyStates.not T.U_NoStream_TooManyStates T.U_TooManyStates_TooManyStates) ( .cons (T.X_NoOctets.not T.U_NoStream_NoOctets T.U_NoOctets_NoOctets) ( .cons (T.X_BadTable.not T.U_NoStream_BadTable T.U_BadTable_BadTable) ( .cons (T.X_BadBlock.not T.U_NoStream_BadBlock T.U_BadBlock_BadBlock) ( .cons (T.X_TooMany.not T.U_NoStream_TooMany T.U_TooMany_TooMany) ( .cons (T.X_BadAnswer.not T.U_NoStream_BadAnswer T.U_BadAnswer_BadAnswer) ( .cons (T.X_BadOrder.not T.U_NoStream_BadOrder T.U_BadOrder_BadOrder) ( .cons (T.X_NoAnswer.not T.U_NoStream_NoAnswer T.U_NoAnswer_NoAnswer) ( .nil))))))))))))))))))
  by_cases h5 : k = 5
  · subst h5; cases h; exact .mkB (bs := [false, false, false, false, false, true, false, false, false, false, false, false, false, false, false, false, false]) (by decide) (.cons (T.X_NoSetting.not T.U_NoOctetList_NoSetting T.U_NoSetting_NoSetting) ( .cons (T.X_NoField.not T.U_NoOctetList_NoField T.U_NoField_NoField) ( .cons (T.X_NoValue.not T.U_NoOctetList_NoValue T.U_NoValue_NoValue) ( .cons (T.X_NoNumber.not T.U_NoOctetList_NoNumber T.U_NoNumber_NoNumber) ( .cons (T.X_NoStream.not T.U_NoOctetList_NoStream T.U_NoStream_NoStream) ( .cons (T.X_NoOctetList.self T.U_NoOctetList_NoOctetList) ( .cons (T.X_NoLog.not T.U_NoOctetList_NoLog T.U_NoLog_NoLog) ( .cons (T.X_Held.not T.U_NoOctetList_Held T.U_Held_Held) ( .cons (T.X_TooGreat.not T.U_NoOctetList_TooGreat T.U_TooGreat_TooGreat) ( .cons (T.X_TooManyStates.not T.U_NoOctetList_TooManyStates T.U_TooManyStates_TooManyStates) ( .cons (T.X_NoOctets.not T.U_NoOctetList_NoOctets T.U_NoOctets_NoOctets) ( .cons (T.X_BadTable.not T.U_NoOctetList_BadTable T.U_BadTable_BadTable) ( .cons (T.X_BadBlock.not T.U_NoOctetList_BadBlock T.U_BadBlock_BadBlock) ( .cons (T.X_TooMany.not T.U_NoOctetList_TooMany T.U_TooMany_TooMany) ( .cons (T.X_BadAnswer.not T.U_NoOctetList_BadAnswer T.U_BadAnswer_BadAnswer) ( .cons (T.X_BadOrder.not T.U_NoOctetList_BadOrder T.U_BadOrder_BadOrder) ( .cons (T.X_NoAnswer.not T.U_NoOctetList_NoAnswer T.U_NoAnswer_NoAnswer) ( .nil))))))))))))))))))
  by_cases h6 : k = 6
  · subst h6; cases h; exact .mkB (bs := [false, false, false, false, false, false, true, false, false, false, false, false, false, false, false, false, false]) (by decide) (.cons (T.X_NoSetting.not T.U_NoLog_NoSetting T.U_NoSetting_NoSetting) ( .cons (T.X_NoField.not T.U_NoLog_NoField T.U_NoField_NoField) ( .cons (T.X_NoValue.not T.U_NoLog_NoValue T.U_NoValue_NoValue) ( .cons (T.X_NoNumber.not T.U_NoLog_NoNumber T.U_NoNumber_NoNumber) ( .cons (T.X_NoStream.not T.U_NoLog_NoStream T.U_NoStream_NoStream) ( .cons (T.X_NoOctetList.not T.U_NoLog_NoOctetList T.U_NoOctetList_NoOctetList) ( .cons (T.X_NoLog.self T.U_NoLog_NoLog) ( .cons (T.X_Held.not T.U_NoLog_Held T.U_Held_Held) ( .cons (T.X_TooGreat.not T.U_NoLog_TooGreat T.U_TooGreat_TooGreat) ( .cons (T.X_TooManyStates.not T.U_NoLog_TooManyStates T.U_TooManyStates_TooManyStates) ( .cons (T.X_NoOctets.not T.U_NoLog_NoOctets T.U_NoOctets_NoOctets) ( .cons (T.X_BadTable.not T.U_NoLog_BadTable T.U_BadTable_BadTable) ( .cons (T.X_BadBlock.not T.U_NoLog_BadBlock T.U_BadBlock_BadBlock) ( .cons (T.X_TooMany.not T.U_NoLog_TooMany T.U_TooMany_TooMany) ( .cons (T.X_BadAnswer.not T.U_NoLog_BadAnswer T.U_BadAnswer_BadAnswer) ( .cons (T.X_BadOrder.not T.U_NoLog_BadOrder T.U_BadOrder_BadOrder) ( .cons (T.X_NoAnswer.not T.U_NoLog_NoAnswer T.U_NoAnswer_NoAnswer) ( .nil))))))))))))))))))
  by_cases h7 : k = 7
  · subst h7; cases h; exact .mkB (bs := [false, false, false, false, false, false, false, true, false, false, false, false, false, false, false, false, false]) (by decide) (.cons (T.X_NoSetting.not T.U_Held_NoSetting T.U_NoSetting_NoSetting) ( .cons (T.X_NoField.not T.U_Held_NoField T.U_NoField_NoField) ( .cons (T.X_NoValue.not T.U_Held_NoValue T.U_NoValue_NoValue) ( .cons (T.X_NoNumber.not T.U_Held_NoNumber T.U_NoNumber_NoNumber) ( .cons (T.X_NoStream.not T.U_Held_NoStream T.U_NoStream_NoStream) ( .cons (T.X_NoOctetList.not T.U_Held_NoOctetList T.U_NoOctetList_NoOctetList) ( .cons (T.X_NoLog.not T.U_Held_NoLog T.U_NoLog_NoLog) ( .cons (T.X_Held.self T.U_Held_Held) ( .cons (T.X_TooGreat.not T.U_Held_TooGreat T.U_TooGreat_TooGreat) ( .cons (T.X_TooManyStates.not T.U_Held_TooManyStates T.U_TooManyStates_TooManyStates) ( .cons (T.X_NoOctets.not T.U_Held_NoOctets T.U_NoOctets_NoOctets) ( .cons (T.X_BadTable.not T.U_Held_BadTable T.U_BadTable_BadTable) ( .cons (T.X_BadBlock.not T.U_Held_BadBlock T.U_BadBlock_BadBlock) ( .cons (T.X_TooMany.not T.U_Held_TooMany T.U_TooMany_TooMany) ( .cons (T.X_BadAnswer.not T.U_Held_BadAnswer T.U_BadAnswer_BadAnswer) ( .cons (T.X_BadOrder.not T.U_Held_BadOrder T.U_BadOrder_BadOrder) ( .cons (T.X_NoAnswer.not T.U_Held_NoAnswer T.U_NoAnswer_NoAnswer) ( .nil))))))))))))))))))
  by_cases h8 : k = 8
  · subst h8; cases h; exact .mkB (bs := [false, false, false, false, false, false, false, false, true, false, false, false, false, false, false, false, false]) (by decide) (.cons (T.X_NoSetting.not T.U_TooGreat_NoSetting T.U_NoSetting_NoSetting) ( .cons (T.X_NoField.not T.U_TooGreat_NoField T.U_NoField_NoField) ( .cons (T.X_NoValue.not T.U_TooGreat_NoValue T.U_NoValue_NoValue) ( .cons (T.X_NoNumber.not T.U_TooGreat_NoNumber T.U_NoNumber_NoNumber) ( .cons (T.X_NoStream.not T.U_TooGreat_NoStream T.U_NoStream_NoStream) ( .cons (T.X_NoOctetList.not T.U_TooGreat_NoOctetList T.U_NoOctetList_NoOctetList) ( .cons (T.X_NoLog.not T.U_TooGreat_NoLog T.U_NoLog_NoLog) ( .cons (T.X_Held.not T.U_TooGreat_Held T.U_Held_Held) ( .cons (T.X_TooGreat.self T.U_TooGreat_TooGreat) ( .cons (T.X_TooManyStates.not T.U_TooGreat_TooManyStates T.U_TooManyStates_TooManyStates) ( .cons (T.X_NoOctets.not T.U_TooGreat_NoOctets T.U_NoOctets_NoOctets) ( .cons (T.X_BadTable.not T.U_TooGreat_BadTable T.U_BadTable_BadTable) ( .cons (T.X_BadBlock.not T.U_TooGreat_BadBlock T.U_BadBlock_BadBlock) ( .cons (T.X_TooMany.not T.U_TooGreat_TooMany T.U_TooMany_TooMany) ( .cons (T.X_BadAnswer.not T.U_TooGreat_BadAnswer T.U_BadAnswer_BadAnswer) ( .cons (T.X_BadOrder.not T.U_TooGreat_BadOrder T.U_BadOrder_BadOrder) ( .cons (T.X_NoAnswer.not T.U_TooGreat_NoAnswer T.U_NoAnswer_NoAnswer) ( .nil))))))))))))))))))
  by_cases h9 : k = 9
  · subst h9; cases h; exact .mkB (bs := [false, false, false, false, false, false, false, false, false, true, false, false, false, false, false, false, false]) (by decide) (.cons (T.X_NoSetting.not T.U_TooManyStates_NoSetting T.U_NoSetting_NoSetting) ( .cons (T.X_NoField.not T.U_TooManyStates_NoField T.U_NoField_NoField) ( .cons (T.X_NoValue.not T.U_TooManyStates_NoValue T.U_NoValue_NoValue) ( .cons (T.X_NoNumber.not T.U_TooManyStates_NoNumber T.U_NoNumber_NoNumber) ( .cons (T.X_NoStream.not T.U_TooManyStates_NoStream T.U_NoStream_NoStream) ( .cons (T.X_NoOctetList.not T.U_TooManyStates_NoOctetList T.U_NoOctetList_NoOctetList) ( .cons (T.X_NoLog.not T.U_TooManyStates_NoLog T.U_NoLog_NoLog) ( .cons (T.X_Held.not T.U_TooManyStates_Held T.U_Held_Held) ( .cons (T.X_TooGreat.not T.U_TooManyStates_TooGreat T.U_TooGreat_TooGreat) ( .cons (T.X_TooManyStates.self T.U_TooManyStates_TooManyStates) ( .cons (T.X_NoOctets.not T.U_TooManyStates_NoOctets T.U_NoOctets_NoOctets) ( .cons (T.X_BadTable.not T.U_TooManyStates_BadTable T.U_BadTable_BadTable) ( .cons (T.X_BadBlock.not T.U_TooManyStates_BadBlock T.U_BadBlock_BadBlock) ( .cons (T.X_TooMany.not T.U_TooManyStates_TooMany T.U_TooMany_TooMany) ( .cons (T.X_BadAnswer.not T.U_TooManyStates_BadAnswer T.U_BadAnswer_BadAnswer) ( .cons (T.X_BadOrder.not T.U_TooManyStates_BadOrder T.U_BadOrder_BadOrder) ( .cons (T.X_NoAnswer.not T.U_TooManyStates_NoAnswer T.U_NoAnswer_NoAnswer) ( .nil))))))))))))))))))
  by_cases h10 : k = 10
  · subst h10; cases h; exact .mkB (bs := [false, false, false, false, false, false, false, false, false, false, true, false, false, false, false, false, false]) (by decide) (.cons (T.X_NoSetting.not T.U_NoOctets_NoSetting T.U_NoSetting_NoSetting) ( .cons (T.X_NoField.not T.U_NoOctets_NoField T.U_NoField_NoField) ( .cons (T.X_NoValue.not T.U_NoOctets_NoValue T.U_NoValue_NoValue) ( .cons (T.X_NoNumber.not T.U_NoOctets_NoNumber T.U_NoNumber_NoNumber) ( .cons (T.X_NoStream.not T.U_NoOctets_NoStream T.U_NoStream_NoStream) ( .cons (T.X_NoOctetList.not T.U_NoOctets_NoOctetList T.U_NoOctetList_NoOctetList) ( .cons (T.X_NoLog.not T.U_NoOctets_NoLog T.U_NoLog_NoLog) ( .cons (T.X_Held.not T.U_NoOctets_Held T.U_Held_Held) ( .cons (T.X_TooGreat.not T.U_NoOctets_TooGreat T.U_TooGreat_TooGreat) ( .cons (T.X_TooManyStates.not T.U_NoOctets_TooManyStates T.U_TooManyStates_TooManyStates) ( .cons (T.X_NoOctets.self T.U_NoOctets_NoOctets) ( .cons (T.X_BadTable.not T.U_NoOctets_BadTable T.U_BadTable_BadTable) ( .cons (T.X_BadBlock.not T.U_NoOctets_BadBlock T.U_BadBlock_BadBlock) ( .cons (T.X_TooMany.not T.U_NoOctets_TooMany T.U_TooMany_TooMany) ( .cons (T.X_BadAnswer.not T.U_NoOctets_BadAnswer T.U_BadAnswer_BadAnswer) ( .cons (T.X_BadOrder.not T.U_NoOctets_BadOrder T.U_BadOrder_BadOrder) ( .cons (T.X_NoAnswer.not T.U_NoOctets_NoAnswer T.U_NoAnswer_NoAnswer) ( .nil))))))))))))))))))
  by_cases h11 : k = 11
  · subst h11; cases h; exact .mkB (bs := [false, false, false, false, false, false, false, false, false, false, false, true, false, false, false, false, false]) (by decide) (.cons (T.X_NoSetting.not T.U_BadTable_NoSetting T.U_NoSetting_NoSetting) ( .cons (T.X_NoField.not T.U_BadTable_NoField T.U_NoField_NoField) ( .cons (T.X_NoValue.not T.U_BadTable_NoValue T.U_NoValue_NoValue) ( .cons (T.X_NoNumber.not T.U_BadTable_NoNumber T.U_NoNumber_NoNumber) ( .cons (T.X_NoStream.not T.U_BadTable_NoStream T.U_NoStream_NoStream) ( .cons (T.X_NoOctetList.not T.U_BadTable_NoOctetList T.U_NoOctetList_NoOctetList) ( .cons (T.X_NoLog.not T.U_BadTable_NoLog T.U_NoLog_NoLog) ( .cons (T.X_Held.not T.U_BadTable_Held T.U_Held_Held) ( .cons (T.X_TooGreat.not T.U_BadTable_TooGreat T.U_TooGreat_TooGreat) ( .cons (T.X_TooManyStates.not T.U_BadTable_TooManyStates T.U_TooManyStates_TooManyStates) ( .cons (T.X_NoOctets.not T.U_BadTable_NoOctets T.U_NoOctets_NoOctets) ( .cons (T.X_BadTable.self T.U_BadTable_BadTable) ( .cons (T.X_BadBlock.not T.U_BadTable_BadBlock T.U_BadBlock_BadBlock) ( .cons (T.X_TooMany.not T.U_BadTable_TooMany T.U_TooMany_TooMany) ( .cons (T.X_BadAnswer.not T.U_BadTable_BadAnswer T.U_BadAnswer_BadAnswer) ( .cons (T.X_BadOrder.not T.U_BadTable_BadOrder T.U_BadOrder_BadOrder) ( .cons (T.X_NoAnswer.not T.U_BadTable_NoAnswer T.U_NoAnswer_NoAnswer) ( .nil))))))))))))))))))
  by_cases h12 : k = 12
  · subst h12; cases h; exact .mkB (bs := [false, false, false, false, false, false, false, false, false, false, false, false, true, false, false, false, false]) (by decide) (.cons (T.X_NoSetting.not T.U_BadBlock_NoSetting T.U_NoSetting_NoSetting) ( .cons (T.X_NoField.not T.U_BadBlock_NoField T.U_NoField_NoField) ( .cons (T.X_NoValue.not T.U_BadBlock_NoValue T.U_NoValue_NoValue) ( .cons (T.X_NoNumber.not T.U_BadBlock_NoNumber T.U_NoNumber_NoNumber) ( .cons (T.X_NoStream.not T.U_BadBlock_NoStream T.U_NoStream_NoStream) ( .cons (T.X_NoOctetList.not T.U_BadBlock_NoOctetList T.U_NoOctetList_NoOctetList) ( .cons (T.X_NoLog.not T.U_BadBlock_NoLog T.U_NoLog_NoLog) ( .cons (T.X_Held.not T.U_BadBlock_Held T.U_Held_Held) ( .cons (T.X_TooGreat.not T.U_BadBlock_TooGreat T.U_TooGreat_TooGreat) ( .cons (T.X_TooManyStates.not T.U_BadBlock_TooManyStates T.U_TooManyStates_TooManyStates) ( .cons (T.X_NoOctets.not T.U_BadBlock_NoOctets T.U_NoOctets_NoOctets) ( .cons (T.X_BadTable.not T.U_BadBlock_BadTable T.U_BadTable_BadTable) ( .cons (T.X_BadBlock.self T.U_BadBlock_BadBlock) ( .cons (T.X_TooMany.not T.U_BadBlock_TooMany T.U_TooMany_TooMany) ( .cons (T.X_BadAnswer.not T.U_BadBlock_BadAnswer T.U_BadAnswer_BadAnswer) ( .cons (T.X_BadOrder.not T.U_BadBlock_BadOrder T.U_BadOrder_BadOrder) ( .cons (T.X_NoAnswer.not T.U_BadBlock_NoAnswer T.U_NoAnswer_NoAnswer) ( .nil))))))))))))))))))
  by_cases h13 : k = 13
  · subst h13; cases h; exact .mkB (bs := [false, false, false, false, false, false, false, false, false, false, false, false, false, true, false, false, false]) (by decide) (.cons (T.X_NoSetting.not T.U_TooMany_NoSetting T.U_NoSetting_NoSetting) ( .cons (T.X_NoField.not T.U_TooMany_NoField T.U_NoField_NoField) ( .cons (T.X_NoValue.not T.U_TooMany_NoValue T.U_NoValue_NoValue) ( .cons (T.X_NoNumber.not T.U_TooMany_NoNumber T.U_NoNumber_NoNumber) ( .cons (T.X_NoStream.not T.U_TooMany_NoStream T.U_NoStream_NoStream) ( .cons (T.X_NoOctetList.not T.U_TooMany_NoOctetList T.U_NoOctetList_NoOctetList) ( .cons (T.X_NoLog.not T.U_TooMany_NoLog T.U_NoLog_NoLog) ( .cons (T.X_Held.not T.U_TooMany_Held T.U_Held_Held) ( .cons (T.X_TooGreat.not T.U_TooMany_TooGreat T.U_TooGreat_TooGreat) ( .cons (T.X_TooManyStates.not T.U_TooMany_TooManyStates T.U_TooManyStates_TooManyStates) ( .cons (T.X_NoOctets.not T.U_TooMany_NoOctets T.U_NoOctets_NoOctets) ( .cons (T.X_BadTable.not T.U_TooMany_BadTable T.U_BadTable_BadTable) ( .cons (T.X_BadBlock.not T.U_TooMany_BadBlock T.U_BadBlock_BadBlock) ( .cons (T.X_TooMany.self T.U_TooMany_TooMany) ( .cons (T.X_BadAnswer.not T.U_TooMany_BadAnswer T.U_BadAnswer_BadAnswer) ( .cons (T.X_BadOrder.not T.U_TooMany_BadOrder T.U_BadOrder_BadOrder) ( .cons (T.X_NoAnswer.not T.U_TooMany_NoAnswer T.U_NoAnswer_NoAnswer) ( .nil))))))))))))))))))
  by_cases h14 : k = 14
  · subst h14; cases h; exact .mkB (bs := [false, false, false, false, false, false, false, false, false, false, false, false, false, false, true, false, false]) (by decide) (.cons (T.X_NoSetting.not T.U_BadAnswer_NoSetting T.U_NoSetting_NoSetting) ( .cons (T.X_NoField.not T.U_BadAnswer_NoField T.U_NoField_NoField) ( .cons (T.X_NoValue.not T.U_BadAnswer_NoValue T.U_NoValue_NoValue) ( .cons (T.X_NoNumber.not T.U_BadAnswer_NoNumber T.U_NoNumber_NoNumber) ( .cons (T.X_NoStream.not T.U_BadAnswer_NoStream T.U_NoStream_NoStream) ( .cons (T.X_NoOctetList.not T.U_BadAnswer_NoOctetList T.U_NoOctetList_NoOctetList) ( .cons (T.X_NoLog.not T.U_BadAnswer_NoLog T.U_NoLog_NoLog) ( .cons (T.X_Held.not T.U_BadAnswer_Held T.U_Held_Held) ( .cons (T.X_TooGreat.not T.U_BadAnswer_TooGreat T.U_TooGreat_TooGreat) ( .cons (T.X_TooManyStates.not T.U_BadAnswer_TooManyStates T.U_TooManyStates_TooManyStates) ( .cons (T.X_NoOctets.not T.U_BadAnswer_NoOctets T.U_NoOctets_NoOctets) ( .cons (T.X_BadTable.not T.U_BadAnswer_BadTable T.U_BadTable_BadTable) ( .cons (T.X_BadBlock.not T.U_BadAnswer_BadBlock T.U_BadBlock_BadBlock) ( .cons (T.X_TooMany.not T.U_BadAnswer_TooMany T.U_TooMany_TooMany) ( .cons (T.X_BadAnswer.self T.U_BadAnswer_BadAnswer) ( .cons (T.X_BadOrder.not T.U_BadAnswer_BadOrder T.U_BadOrder_BadOrder) ( .cons (T.X_NoAnswer.not T.U_BadAnswer_NoAnswer T.U_NoAnswer_NoAnswer) ( .nil))))))))))))))))))
  by_cases h15 : k = 15
  · subst h15; cases h; exact .mkB (bs := [false, false, false, false, false, false, false, false, false, false, false, false, false, false, false, true, false]) (by decide) (.cons (T.X_NoSetting.not T.U_BadOrder_NoSetting T.U_NoSetting_NoSetting) ( .cons (T.X_NoField.not T.U_BadOrder_NoField T.U_NoField_NoField) ( .cons (T.X_NoValue.not T.U_BadOrder_NoValue T.U_NoValue_NoValue) ( .cons (T.X_NoNumber.not T.U_BadOrder_NoNumber T.U_NoNumber_NoNumber) ( .cons (T.X_NoStream.not T.U_BadOrder_NoStream T.U_NoStream_NoStream) ( .cons (T.X_NoOctetList.not T.U_BadOrder_NoOctetList T.U_NoOctetList_NoOctetList) ( .cons (T.X_NoLog.not T.U_BadOrder_NoLog T.U_NoLog_NoLog) ( .cons (T.X_Held.not T.U_BadOrder_Held T.U_Held_Held) ( .cons (T.X_TooGreat.not T.U_BadOrder_TooGreat T.U_TooGreat_TooGreat) ( .cons (T.X_TooManyStates.not T.U_BadOrder_TooManyStates T.U_TooManyStates_TooManyStates) ( .cons (T.X_NoOctets.not T.U_BadOrder_NoOctets T.U_NoOctets_NoOctets) ( .cons (T.X_BadTable.not T.U_BadOrder_BadTable T.U_BadTable_BadTable) ( .cons (T.X_BadBlock.not T.U_BadOrder_BadBlock T.U_BadBlock_BadBlock) ( .cons (T.X_TooMany.not T.U_BadOrder_TooMany T.U_TooMany_TooMany) ( .cons (T.X_BadAnswer.not T.U_BadOrder_BadAnswer T.U_BadAnswer_BadAnswer) ( .cons (T.X_BadOrder.self T.U_BadOrder_BadOrder) ( .cons (T.X_NoAnswer.not T.U_BadOrder_NoAnswer T.U_NoAnswer_NoAnswer) ( .nil))))))))))))))))))
  by_cases h16 : k = 16
  · subst h16; cases h; exact .mkB (bs := [false, false, false, false, false, false, false, false, false, false, false, false, false, false, false, false, true]) (by decide) (.cons (T.X_NoSetting.not T.U_NoAnswer_NoSetting T.U_NoSetting_NoSetting) ( .cons (T.X_NoField.not T.U_NoAnswer_NoField T.U_NoField_NoField) ( .cons (T.X_NoValue.not T.U_NoAnswer_NoValue T.U_NoValue_NoValue) ( .cons (T.X_NoNumber.not T.U_NoAnswer_NoNumber T.U_NoNumber_NoNumber) ( .cons (T.X_NoStream.not T.U_NoAnswer_NoStream T.U_NoStream_NoStream) ( .cons (T.X_NoOctetList.not T.U_NoAnswer_NoOctetList T.U_NoOctetList_NoOctetList) ( .cons (T.X_NoLog.not T.U_NoAnswer_NoLog T.U_NoLog_NoLog) ( .cons (T.X_Held.not T.U_NoAnswer_Held T.U_Held_Held) ( .cons (T.X_TooGreat.not T.U_NoAnswer_TooGreat T.U_TooGreat_TooGreat) ( .cons (T.X_TooManyStates.not T.U_NoAnswer_TooManyStates T.U_TooManyStates_TooManyStates) ( .cons (T.X_NoOctets.not T.U_NoAnswer_NoOctets T.U_NoOctets_NoOctets) ( .cons (T.X_BadTable.not T.U_NoAnswer_BadTable T.U_BadTable_BadTable) ( .cons (T.X_BadBlock.not T.U_NoAnswer_BadBlock T.U_BadBlock_BadBlock) ( .cons (T.X_TooMany.not T.U_NoAnswer_TooMany T.U_TooMany_TooMany) ( .cons (T.X_BadAnswer.not T.U_NoAnswer_BadAnswer T.U_BadAnswer_BadAnswer) ( .cons (T.X_BadOrder.not T.U_NoAnswer_BadOrder T.U_BadOrder_BadOrder) ( .cons (T.X_NoAnswer.self T.U_NoAnswer_NoAnswer) ( .nil))))))))))))))))))
  omega
theorem ok_law_made_right (T : Txt K mg) : MidOk P w K mg base CX0 4 T.f_law_made_right T.d_law_made_right ["pen"] sp_made_right := by
  refine mid_of T.F_law_made_right sc_law_made_right (fun vs H Q E h => ?_) (fun cdv A outer s H vs Q E hA hr h => ?_)
  · obtain ⟨p, c, n, rfl, _⟩ := h
    rfl
  · obtain ⟨p, c, n, rfl, hp, hn, q⟩ := h
    have hgd : (A.deeper (envOfC "_law_made_right" (defScope s_law_made_right) s.heap.objs.size T.f_law_made_right cdv)).guards = some [] := hA
    have hud : (A.deeper (envOfC "_law_made_right" (defScope s_law_made_right) s.heap.objs.size T.f_law_made_right cdv)).units + 64 < cLine := by have := hr.un; omega
    refine ⟨_, (pss_cons (ps_set (i := 1) sc_law_made_right.nd rfl (Or.inl rfl) (pe_call (ok_law_one_of T) (hr.mono (by decide)) rfl T.g_law_one_of T.F_law_one_of.kp T.b_law_one_of .nil pass0 (pa_cons (pv 0) (pa_cons (pe_lst (pa_cons pe_int (pa_cons pe_int (pa_cons pe_int (pa_cons pe_int pa_nil))))) pa_nil))))
      (Evl.pss_cut (ps_set (i := 2) sc_law_made_right.nd rfl (Or.inl rfl) (pe_lst (pa_cons (pe_exc1 PySem.F.excBase_ValueError T.P_NoSetting.x_ T.P_NoSetting.g T.P_NoSetting.k_ rfl pe_str) (pa_cons (pe_exc1 PySem.F.excBase_ValueError T.P_NoField.x_ T.P_NoField.g T.P_NoField.k_ rfl pe_str) (pa_cons (pe_exc1 PySem.F.excBase_ValueError T.P_NoValue.x_ T.P_NoValue.g T.P_NoValue.k_ rfl pe_str) (pa_cons (pe_exc1 PySem.F.excBase_ValueError T.P_NoNumber.x_ T.P_NoNumber.g T.P_NoNumber.k_ rfl pe_str) (pa_cons (pe_exc1 PySem.F.excBase_ValueError T.P_NoStream.x_ T.P_NoStream.g T.P_NoStream.k_ rfl pe_str) (pa_cons (pe_exc1 PySem.F.excBase_ValueError T.P_NoOctetList.x_ T.P_NoOctetList.g T.P_NoOctetList.k_ rfl pe_str) (pa_cons (pe_exc1 PySem.F.excBase_ValueError T.P_NoLog.x_ T.P_NoLog.g T.P_NoLog.k_ rfl pe_str) pa_nil)))))))))
      (Evl.pss_cut (ps_set (i := 2) sc_law_made_right.nd rfl (Or.inl rfl) (pe_op op_cat (pv 2) (pe_lst (pa_cons (pe_exc1 PySem.F.excBase_ValueError T.P_Held.x_ T.P_Held.g T.P_Held.k_ rfl pe_str) (pa_cons (pe_exc1 PySem.F.excBase_ValueError T.P_TooGreat.x_ T.P_TooGreat.g T.P_TooGreat.k_ rfl pe_str) (pa_cons (pe_exc1 PySem.F.excBase_ValueError T.P_TooManyStates.x_ T.P_TooManyStates.g T.P_TooManyStates.k_ rfl pe_str) (pa_cons (pe_oexK T.E_NoOctets.ox T.E_NoOctets.iC T.E_NoOctets.tI (ok_NoOctets_init T) (hr.mono (by decide)) T.kb_NoOctets_init pass0 rfl T.E_NoOctets.g (pk_cons (pv 1) pk_nil)) (pa_cons (pe_oexK T.E_BadTable.ox T.E_BadTable.iC T.E_BadTable.tI (ok_BadTable_init T) (hr.mono (by decide)) T.kb_BadTable_init pass0 rfl T.E_BadTable.g (pk_cons (pv 1) pk_nil)) pa_nil))))))))
      (Evl.pss_cut (ps_set (i := 2) sc_law_made_right.nd rfl (Or.inl rfl) (pe_op op_cat (pv 2) (pe_lst (pa_cons (pe_oexK T.E_BadBlock.ox T.E_BadBlock.iC T.E_BadBlock.tI (ok_BadBlock_init T) (hr.mono (by decide)) T.kb_BadBlock_init pass0 rfl T.E_BadBlock.g (pk_cons (pv 1) pk_nil)) (pa_cons (pe_oexK T.E_TooMany.ox T.E_TooMany.iC T.E_TooMany.tI (ok_TooMany_init T) (hr.mono (by decide)) T.kb_TooMany_init pass0 rfl T.E_TooMany.g (pk_cons (pv 1) pk_nil)) (pa_cons (pe_oexK T.E_BadAnswer.ox T.E_BadAnswer.iC T.E_BadAnswer.tI (ok_BadAnswer_init T) (hr.mono (by decide)) T.kb_BadAnswer_init pass0 rfl T.E_BadAnswer.g (pk_cons (pv 1) pk_nil)) (pa_cons (pe_oexK T.E_BadOrder.ox T.E_BadOrder.iC T.E_BadOrder.tI (ok_BadOrder_init T) (hr.mono (by decide)) T.kb_BadOrder_init pass0 rfl T.E_BadOrder.g (pk_cons (pv 1) pk_nil)) pa_nil)))))))
      (Evl.pss_cut (ps_expr (pe_bm PySem.F.plainAttrs_list PySem.F.slot_list_append PySem.F.type_list_append mt_append (pv 2) (pa_cons (pe_oexK T.E_NoAnswer.ox T.E_NoAnswer.iC T.E_NoAnswer.tI (ok_NoAnswer_init T) (hr.mono (by decide)) T.kb_NoAnswer_init pass0 rfl T.E_NoAnswer.g (pk_cons (pv 1) pk_nil)) pa_nil)))
      (Evl.pss_cut (ps_if (pt_cmpR op_in_seq pe_bl (pe_lc (own := [("one", 3)]) (g := (gName 3)) (tt := tYes)  rfl sc_law_made_right.nd (pi_list (pv 2)) (blkOk_by (own := [("one", 3)]) (N := ["pen", "part", "errors", "one", "k", "some", "j", "told"]) (sc := defScope s_law_made_right) (by decide +kernel)) (fun _ _ _ _ _ => (pg_name (i := 3) sc_law_made_right.nd rfl (Or.inl rfl))) (fun _ _ _ _ _ => pts_nil) (fun _ _ _ _ _ => (pe_and (pe_callB (clK (K := K) (r := rIsO) call_isO) rfl T.z_isinstance boot_isinstance (pa_cons (pv 3) (pa_cons (pe_glob (v := .ref T.C_FieldError) rfl T.B_FieldError.g rfl) pa_nil))) (pe_one (pe_callB (clK (K := K) (r := rIsO) call_isO) rfl T.z_isinstance boot_isinstance (pa_cons (pv 3) (pa_cons (pe_bltn (v := .ty "ValueError") rfl T.z_ValueError boot_ValueError rfl) pa_nil))))))) rfl) (pss_one (ps_ret pe_bl)) pss_nil)
      (Evl.pss_cut (ps_for PassesOwn.never rfl (pi_enum rfl T.z_enumerate (pa_cons (pv 2) pa_nil)) (pg_tup rfl (pgs_cons (pg_name (i := 4) sc_law_made_right.nd rfl (Or.inr rfl)) (pgs_cons (pg_name (i := 3) sc_law_made_right.nd rfl (Or.inl rfl)) pgs_nil)))
        (pss_cons (ps_set (i := 5) sc_law_made_right.nd rfl (Or.inl rfl) (pe_lst (pa_cons (pe_callB call_isO rfl T.z_isinstance boot_isinstance (pa_cons (pv 3) (pa_cons (pe_glob (v := .ref T.C_NoSetting) rfl T.P_NoSetting.g rfl) pa_nil))) (pa_cons (pe_callB call_isO rfl T.z_isinstance boot_isinstance (pa_cons (pv 3) (pa_cons (pe_glob (v := .ref T.C_NoField) rfl T.P_NoField.g rfl) pa_nil))) (pa_cons (pe_callB call_isO rfl T.z_isinstance boot_isinstance (pa_cons (pv 3) (pa_cons (pe_glob (v := .ref T.C_NoValue) rfl T.P_NoValue.g rfl) pa_nil))) pa_nil)))))
      (pss_cons (ps_set (i := 5) sc_law_made_right.nd rfl (Or.inl rfl) (pe_op op_cat (pv 5) (pe_lst (pa_cons (pe_callB call_isO rfl T.z_isinstance boot_isinstance (pa_cons (pv 3) (pa_cons (pe_glob (v := .ref T.C_NoNumber) rfl T.P_NoNumber.g rfl) pa_nil))) (pa_cons (pe_callB call_isO rfl T.z_isinstance boot_isinstance (pa_cons (pv 3) (pa_cons (pe_glob (v := .ref T.C_NoStream) rfl T.P_NoStream.g rfl) pa_nil))) (pa_cons (pe_callB call_isO rfl T.z_isinstance boot_isinstance (pa_cons (pv 3) (pa_cons (pe_glob (v := .ref T.C_NoOctetList) rfl T.P_NoOctetList.g rfl) pa_nil))) pa_nil))))))
      (pss_cons (ps_set (i := 5) sc_law_made_right.nd rfl (Or.inl rfl) (pe_op op_cat (pv 5) (pe_lst (pa_cons (pe_callB call_isO rfl T.z_isinstance boot_isinstance (pa_cons (pv 3) (pa_cons (pe_glob (v := .ref T.C_NoLog) rfl T.P_NoLog.g rfl) pa_nil))) (pa_cons (pe_callB call_isO rfl T.z_isinstance boot_isinstance (pa_cons (pv 3) (pa_cons (pe_glob (v := .ref T.C_Held) rfl T.P_Held.g rfl) pa_nil))) (pa_cons (pe_callB call_isO rfl T.z_isinstance boot_isinstance (pa_cons (pv 3) (pa_cons (pe_glob (v := .ref T.C_TooGreat) rfl T.P_TooGreat.g rfl) pa_nil))) pa_nil))))))
      (pss_cons (ps_set (i := 5) sc_law_made_right.nd rfl (Or.inl rfl) (pe_op op_cat (pv 5) (pe_lst (pa_cons (pe_callB call_isO rfl T.z_isinstance boot_isinstance (pa_cons (pv 3) (pa_cons (pe_glob (v := .ref T.C_TooManyStates) rfl T.P_TooManyStates.g rfl) pa_nil))) (pa_cons (pe_callB call_isO rfl T.z_isinstance boot_isinstance (pa_cons (pv 3) (pa_cons (pe_glob (v := .ref T.C_NoOctets) rfl T.E_NoOctets.g rfl) pa_nil))) (pa_cons (pe_callB call_isO rfl T.z_isinstance boot_isinstance (pa_cons (pv 3) (pa_cons (pe_glob (v := .ref T.C_BadTable) rfl T.E_BadTable.g rfl) pa_nil))) pa_nil))))))
      (pss_cons (ps_set (i := 5) sc_law_made_right.nd rfl (Or.inl rfl) (pe_op op_cat (pv 5) (pe_lst (pa_cons (pe_callB call_isO rfl T.z_isinstance boot_isinstance (pa_cons (pv 3) (pa_cons (pe_glob (v := .ref T.C_BadBlock) rfl T.E_BadBlock.g rfl) pa_nil))) (pa_cons (pe_callB call_isO rfl T.z_isinstance boot_isinstance (pa_cons (pv 3) (pa_cons (pe_glob (v := .ref T.C_TooMany) rfl T.E_TooMany.g rfl) pa_nil))) (pa_cons (pe_callB call_isO rfl T.z_isinstance boot_isinstance (pa_cons (pv 3) (pa_cons (pe_glob (v := .ref T.C_BadAnswer) rfl T.E_BadAnswer.g rfl) pa_nil))) pa_nil))))))
      (pss_cons (ps_set (i := 5) sc_law_made_right.nd rfl (Or.inl rfl) (pe_op op_cat (pv 5) (pe_lst (pa_cons (pe_callB call_isO rfl T.z_isinstance boot_isinstance (pa_cons (pv 3) (pa_cons (pe_glob (v := .ref T.C_BadOrder) rfl T.E_BadOrder.g rfl) pa_nil))) (pa_cons (pe_callB call_isO rfl T.z_isinstance boot_isinstance (pa_cons (pv 3) (pa_cons (pe_glob (v := .ref T.C_NoAnswer) rfl T.E_NoAnswer.g rfl) pa_nil))) pa_nil)))))
      (pss_one (ps_if (pt_cmpR (op_neD hud) (pv 5) (pe_lc (own := [("j", 6)]) (g := (gName 6)) (tt := tYes)  rfl sc_law_made_right.nd (pi_range1 rfl T.z_range (pa_cons pe_int pa_nil)) (blkOk_by (own := [("j", 6)]) (N := ["pen", "part", "errors", "one", "k", "some", "j", "told"]) (sc := defScope s_law_made_right) (by decide +kernel)) (fun _ _ _ _ _ => (pg_name (i := 6) sc_law_made_right.nd rfl (Or.inl rfl))) (fun _ _ _ _ _ => pts_nil) (fun _ _ _ _ _ => (pe_cmpR op_eq (pv 6) (pv 4) (nomark _)))) (nomark _)) (pss_one (ps_ret pe_bl)) pss_nil)))))))))
      (pss_cons (ps_set (i := 7) sc_law_made_right.nd rfl (Or.inl rfl) (pe_lst (pa_cons (pe_xo (pe_ix ix_list (pv 2) pe_int (fun _ _ => rfl)) rfl) (pa_cons (pe_xo (pe_ix ix_list (pv 2) pe_int (fun _ _ => rfl)) rfl) (pa_cons (pe_xo (pe_ix ix_list (pv 2) pe_int (fun _ _ => rfl)) rfl) (pa_cons (pe_xo (pe_ix ix_list (pv 2) pe_int (fun _ _ => rfl)) rfl) (pa_cons (pe_xo (pe_ix ix_list (pv 2) pe_int (fun _ _ => rfl)) rfl) pa_nil)))))))
      (pss_one (ps_ret (pe_cmpR op_eq (pe_callB (call_reprV hgd hud) rfl T.z_repr boot_repr (pa_cons (pe_op op_cat (pv 7) (pe_lst (pa_cons (pe_xo (pe_ix ix_list (pv 2) pe_int (fun _ _ => rfl)) rfl) (pa_cons (pe_xo (pe_ix ix_list (pv 2) pe_int (fun _ _ => rfl)) rfl) pa_nil)))) pa_nil)) (pe_callB (call_reprV hgd hud) rfl T.z_repr boot_repr (pa_cons (pe_op op_rep (pe_lst (pa_cons (pv 1) pa_nil)) pe_int) pa_nil)) (nomark _)))))))))))), ?_⟩
    refine ⟨_, rfl, by show 4 ≤ sizeLine; decide, fun l hl => ?_⟩
    refine ⟨p, c, l, _, _, rfl, hp.new hl, SqL.of upd_same, Ne.symm (hp.ne hl), by simp, by show 4 ≤ 1000; decide, by omega, fun x H0 hx d0 => ?_⟩
    obtain ⟨m, rfl, hm⟩ : ∃ m : Nat, x = .int (m : Nat) ∧ m ≤ 19 := by
      simp only [List.mem_cons, List.not_mem_nil, or_false] at hx
      rcases hx with h | h | h | h
      · exact ⟨0, h, by omega⟩
      · exact ⟨7, h, by omega⟩
      · exact ⟨12, h, by omega⟩
      · exact ⟨19, h, by omega⟩
    have hm1 : ((m : Nat) : Int).natAbs < 2 ^ 1000 := by
      have h3 : (1000 : Nat) < 2 ^ 1000 := by decide +kernel
      rw [Int.natAbs_natCast]; omega
    refine ⟨fun σ' H' => ∃ L, σ' = [some (.ref p), some (.int (m : Nat)), some (.ref L), none, none, none, none, none] ∧ EL H' L (m : Nat) [(T.C_NoSetting, none), (T.C_NoField, none), (T.C_NoValue, none), (T.C_NoNumber, none), (T.C_NoStream, none), (T.C_NoOctetList, none), (T.C_NoLog, none)], ?_, ?_⟩
    · skip
      refine fun a0 n0 => ?_
      have s0 := Same.new (o := ExO (.ref T.C_NoSetting) a0) n0
      have e0 : ErrV (upd H0 a0 (ExO (.ref T.C_NoSetting) a0)) (m : Nat) a0 (T.C_NoSetting, none) := show _ = _ from upd_same
      generalize upd H0 a0 (ExO (.ref T.C_NoSetting) a0) = G0 at s0 e0 ⊢
      refine fun a1 n1 => ?_
      have s1 := Same.new (o := ExO (.ref T.C_NoField) a1) n1
      have e1 : ErrV (upd G0 a1 (ExO (.ref T.C_NoField) a1)) (m : Nat) a1 (T.C_NoField, none) := show _ = _ from upd_same
      generalize upd G0 a1 (ExO (.ref T.C_NoField) a1) = G1 at s1 e1 ⊢
      refine fun a2 n2 => ?_
      have s2 := Same.new (o := ExO (.ref T.C_NoValue) a2) n2
      have e2 : ErrV (upd G1 a2 (ExO (.ref T.C_NoValue) a2)) (m : Nat) a2 (T.C_NoValue, none) := show _ = _ from upd_same
      generalize upd G1 a2 (ExO (.ref T.C_NoValue) a2) = G2 at s2 e2 ⊢
      refine fun a3 n3 => ?_
      have s3 := Same.new (o := ExO (.ref T.C_NoNumber) a3) n3
      have e3 : ErrV (upd G2 a3 (ExO (.ref T.C_NoNumber) a3)) (m : Nat) a3 (T.C_NoNumber, none) := show _ = _ from upd_same
      generalize upd G2 a3 (ExO (.ref T.C_NoNumber) a3) = G3 at s3 e3 ⊢
      refine fun a4 n4 => ?_
      have s4 := Same.new (o := ExO (.ref T.C_NoStream) a4) n4
      have e4 : ErrV (upd G3 a4 (ExO (.ref T.C_NoStream) a4)) (m : Nat) a4 (T.C_NoStream, none) := show _ = _ from upd_same
      generalize upd G3 a4 (ExO (.ref T.C_NoStream) a4) = G4 at s4 e4 ⊢
      refine fun a5 n5 => ?_
      have s5 := Same.new (o := ExO (.ref T.C_NoOctetList) a5) n5
      have e5 : ErrV (upd G4 a5 (ExO (.ref T.C_NoOctetList) a5)) (m : Nat) a5 (T.C_NoOctetList, none) := show _ = _ from upd_same
      generalize upd G4 a5 (ExO (.ref T.C_NoOctetList) a5) = G5 at s5 e5 ⊢
      refine fun a6 n6 => ?_
      have s6 := Same.new (o := ExO (.ref T.C_NoLog) a6) n6
      have e6 : ErrV (upd G5 a6 (ExO (.ref T.C_NoLog) a6)) (m : Nat) a6 (T.C_NoLog, none) := show _ = _ from upd_same
      generalize upd G5 a6 (ExO (.ref T.C_NoLog) a6) = G6 at s6 e6 ⊢
      refine ⟨by show 7 ≤ sizeLine; decide, fun L hL => ?_⟩
      have t := Same.new (o := .lst [.ref a0, .ref a1, .ref a2, .ref a3, .ref a4, .ref a5, .ref a6]) hL
      exact ⟨L, rfl, [a0, a1, a2, a3, a4, a5, a6], upd_same, .cons (e0.keep (s1.trans (s2.trans (s3.trans (s4.trans (s5.trans (s6.trans t))))))) ( .cons (e1.keep (s2.trans (s3.trans (s4.trans (s5.trans (s6.trans t)))))) ( .cons (e2.keep (s3.trans (s4.trans (s5.trans (s6.trans t))))) ( .cons (e3.keep (s4.trans (s5.trans (s6.trans t)))) ( .cons (e4.keep (s5.trans (s6.trans t))) ( .cons (e5.keep (s6.trans t)) ( .cons (e6.keep t) ( .nil)))))))⟩
    rintro σ' H1 ⟨L, rfl, as, gL, hE⟩
    refine ⟨fun σ' H' => ∃ L, σ' = [some (.ref p), some (.int (m : Nat)), some (.ref L), none, none, none, none, none] ∧ EL H' L (m : Nat) [(T.C_NoSetting, none), (T.C_NoField, none), (T.C_NoValue, none), (T.C_NoNumber, none), (T.C_NoStream, none), (T.C_NoOctetList, none), (T.C_NoLog, none), (T.C_Held, none), (T.C_TooGreat, none), (T.C_TooManyStates, none), (T.C_NoOctets, some "place"), (T.C_BadTable, some "number")], ?_, ?_⟩
    · have hal : as.length = 7 := p_len hE
      refine ⟨_, rfl, ?_⟩
      refine fun a7 n7 => ?_
      have s7 := Same.new (o := ExO (.ref T.C_Held) a7) n7
      have e7 : ErrV (upd H1 a7 (ExO (.ref T.C_Held) a7)) (m : Nat) a7 (T.C_Held, none) := show _ = _ from upd_same
      generalize upd H1 a7 (ExO (.ref T.C_Held) a7) = G7 at s7 e7 ⊢
      refine fun a8 n8 => ?_
      have s8 := Same.new (o := ExO (.ref T.C_TooGreat) a8) n8
      have e8 : ErrV (upd G7 a8 (ExO (.ref T.C_TooGreat) a8)) (m : Nat) a8 (T.C_TooGreat, none) := show _ = _ from upd_same
      generalize upd G7 a8 (ExO (.ref T.C_TooGreat) a8) = G8 at s8 e8 ⊢
      refine fun a9 n9 => ?_
      have s9 := Same.new (o := ExO (.ref T.C_TooManyStates) a9) n9
      have e9 : ErrV (upd G8 a9 (ExO (.ref T.C_TooManyStates) a9)) (m : Nat) a9 (T.C_TooManyStates, none) := show _ = _ from upd_same
      generalize upd G8 a9 (ExO (.ref T.C_TooManyStates) a9) = G9 at s9 e9 ⊢
      refine ⟨_, rfl, rfl, fun a10 n10 => made_go2 hm1 n10 fun G10 s10 f10 => ?_⟩
      have e10 : ErrV G10 (m : Nat) a10 (T.C_NoOctets, some "place") := f10
      refine ⟨_, rfl, rfl, fun a11 n11 => made_go2 hm1 n11 fun G11 s11 f11 => ?_⟩
      have e11 : ErrV G11 (m : Nat) a11 (T.C_BadTable, some "number") := f11
      refine ⟨by show 5 ≤ sizeLine; decide, fun L2 hL2 => ?_⟩
      have t := Same.new (o := .lst [.ref a7, .ref a8, .ref a9, .ref a10, .ref a11]) hL2
      refine ⟨L, L2, _, _, rfl, rfl, (s7.trans (s8.trans (s9.trans (s10.trans (s11.trans t))))) _ _ gL, upd_same, by rw [List.length_map, hal]; show 7 + 5 ≤ sizeLine; decide, fun L3 hL3 => ?_⟩
      have t2 := Same.new (o := .lst (as.map V.ref ++ [.ref a7, .ref a8, .ref a9, .ref a10, .ref a11])) hL3
      have p1 : Paired (ErrV _ (m : Nat)) [a7, a8, a9, a10, a11] ([(T.C_Held, none), (T.C_TooGreat, none), (T.C_TooManyStates, none), (T.C_NoOctets, some "place"), (T.C_BadTable, some "number")] : List (Addr × Option Str)) := .cons (e7.keep (s8.trans (s9.trans (s10.trans (s11.trans (t.trans t2)))))) ( .cons (e8.keep (s9.trans (s10.trans (s11.trans (t.trans t2))))) ( .cons (e9.keep (s10.trans (s11.trans (t.trans t2)))) ( .cons (e10.keep (s11.trans (t.trans t2))) ( .cons (e11.keep (t.trans t2)) ( .nil)))))
      have p0 : Paired (ErrV _ (m : Nat)) as ([(T.C_NoSetting, none), (T.C_NoField, none), (T.C_NoValue, none), (T.C_NoNumber, none), (T.C_NoStream, none), (T.C_NoOctetList, none), (T.C_NoLog, none)] : List (Addr × Option Str)) := pmap (fun _ _ z => ErrV.keep z (s7.trans (s8.trans (s9.trans (s10.trans (s11.trans (t.trans t2))))))) hE
      exact ⟨L3, rfl, as ++ [a7, a8, a9, a10, a11], by rw [upd_same, List.map_append]; rfl, p_app p0 p1⟩
    rintro σ' H1 ⟨L, rfl, as, gL, hE⟩
    refine ⟨fun σ' H' => ∃ L, σ' = [some (.ref p), some (.int (m : Nat)), some (.ref L), none, none, none, none, none] ∧ EL H' L (m : Nat) [(T.C_NoSetting, none), (T.C_NoField, none), (T.C_NoValue, none), (T.C_NoNumber, none), (T.C_NoStream, none), (T.C_NoOctetList, none), (T.C_NoLog, none), (T.C_Held, none), (T.C_TooGreat, none), (T.C_TooManyStates, none), (T.C_NoOctets, some "place"), (T.C_BadTable, some "number"), (T.C_BadBlock, some "stream"), (T.C_TooMany, some "stream"), (T.C_BadAnswer, some "number"), (T.C_BadOrder, some "number")], ?_, ?_⟩
    · have hal : as.length = 12 := p_len hE
      refine ⟨_, rfl, ?_⟩
      refine ⟨_, rfl, rfl, fun a12 n12 => made_go2 hm1 n12 fun G12 s12 f12 => ?_⟩
      have e12 : ErrV G12 (m : Nat) a12 (T.C_BadBlock, some "stream") := f12
      refine ⟨_, rfl, rfl, fun a13 n13 => made_go2 hm1 n13 fun G13 s13 f13 => ?_⟩
      have e13 : ErrV G13 (m : Nat) a13 (T.C_TooMany, some "stream") := f13
      refine ⟨_, rfl, rfl, fun a14 n14 => made_go2 hm1 n14 fun G14 s14 f14 => ?_⟩
      have e14 : ErrV G14 (m : Nat) a14 (T.C_BadAnswer, some "number") := f14
      refine ⟨_, rfl, rfl, fun a15 n15 => made_go2 hm1 n15 fun G15 s15 f15 => ?_⟩
      have e15 : ErrV G15 (m : Nat) a15 (T.C_BadOrder, some "number") := f15
      refine ⟨by show 4 ≤ sizeLine; decide, fun L2 hL2 => ?_⟩
      have t := Same.new (o := .lst [.ref a12, .ref a13, .ref a14, .ref a15]) hL2
      refine ⟨L, L2, _, _, rfl, rfl, (s12.trans (s13.trans (s14.trans (s15.trans t)))) _ _ gL, upd_same, by rw [List.length_map, hal]; show 12 + 4 ≤ sizeLine; decide, fun L3 hL3 => ?_⟩
      have t2 := Same.new (o := .lst (as.map V.ref ++ [.ref a12, .ref a13, .ref a14, .ref a15])) hL3
      have p1 : Paired (ErrV _ (m : Nat)) [a12, a13, a14, a15] ([(T.C_BadBlock, some "stream"), (T.C_TooMany, some "stream"), (T.C_BadAnswer, some "number"), (T.C_BadOrder, some "number")] : List (Addr × Option Str)) := .cons (e12.keep (s13.trans (s14.trans (s15.trans (t.trans t2))))) ( .cons (e13.keep (s14.trans (s15.trans (t.trans t2)))) ( .cons (e14.keep (s15.trans (t.trans t2))) ( .cons (e15.keep (t.trans t2)) ( .nil))))
      have p0 : Paired (ErrV _ (m : Nat)) as ([(T.C_NoSetting, none), (T.C_NoField, none), (T.C_NoValue, none), (T.C_NoNumber, none), (T.C_NoStream, none), (T.C_NoOctetList, none), (T.C_NoLog, none), (T.C_Held, none), (T.C_TooGreat, none), (T.C_TooManyStates, none), (T.C_NoOctets, some "place"), (T.C_BadTable, some "number")] : List (Addr × Option Str)) := pmap (fun _ _ z => ErrV.keep z (s12.trans (s13.trans (s14.trans (s15.trans (t.trans t2)))))) hE
      exact ⟨L3, rfl, as ++ [a12, a13, a14, a15], by rw [upd_same, List.map_append]; rfl, p_app p0 p1⟩
    rintro σ' H1 ⟨L, rfl, as, gL, hE⟩
    refine ⟨fun σ' H' => ∃ L, σ' = [some (.ref p), some (.int (m : Nat)), some (.ref L), none, none, none, none, none] ∧ EL H' L (m : Nat) [(T.C_NoSetting, none), (T.C_NoField, none), (T.C_NoValue, none), (T.C_NoNumber, none), (T.C_NoStream, none), (T.C_NoOctetList, none), (T.C_NoLog, none), (T.C_Held, none), (T.C_TooGreat, none), (T.C_TooManyStates, none), (T.C_NoOctets, some "place"), (T.C_BadTable, some "number"), (T.C_BadBlock, some "stream"), (T.C_TooMany, some "stream"), (T.C_BadAnswer, some "number"), (T.C_BadOrder, some "number"), (T.C_NoAnswer, some "event")], ?_, ?_⟩
    · have hal : as.length = 16 := p_len hE
      refine ⟨_, rfl, .inl ⟨rfl, _, SqL.of gL⟩, ?_⟩
      refine ⟨_, rfl, rfl, fun a16 n16 => made_go2 hm1 n16 fun G16 s16 f16 => ?_⟩
      have e16 : ErrV G16 (m : Nat) a16 (T.C_NoAnswer, some "event") := f16
      have gL2 := s16 _ _ gL
      refine ⟨L, _, _, rfl, rfl, gL2, by rw [List.length_map, hal]; show 16 < sizeLine; decide, ?_⟩
      have p1 : Paired (ErrV (upd G16 L (.lst (as.map V.ref ++ [.ref a16]))) (m : Nat)) [a16] ([(T.C_NoAnswer, some "event")] : List (Addr × Option Str)) := .cons (e16.put gL2) .nil
      have p0 : Paired (ErrV (upd G16 L (.lst (as.map V.ref ++ [.ref a16]))) (m : Nat)) as ([(T.C_NoSetting, none), (T.C_NoField, none), (T.C_NoValue, none), (T.C_NoNumber, none), (T.C_NoStream, none), (T.C_NoOctetList, none), (T.C_NoLog, none), (T.C_Held, none), (T.C_TooGreat, none), (T.C_TooManyStates, none), (T.C_NoOctets, some "place"), (T.C_BadTable, some "number"), (T.C_BadBlock, some "stream"), (T.C_TooMany, some "stream"), (T.C_BadAnswer, some "number"), (T.C_BadOrder, some "number")] : List (Addr × Option Str)) := pmap (fun _ _ z => ErrV.put (ErrV.keep z s16) gL2) hE
      exact ⟨L, rfl, as ++ [a16], by rw [upd_same, List.map_append]; rfl, p_app p0 p1⟩
    rintro σ' H1 ⟨L, rfl, as, gL, hE⟩
    refine ⟨fun σ' H' => ∃ L, σ' = [some (.ref p), some (.int (m : Nat)), some (.ref L), none, none, none, none, none] ∧ EL H' L (m : Nat) (cos17 T), ?_, ?_⟩
    · have hal : as.length = 17 := p_len hE
      refine ⟨_, rfl, L, rfl, ⟨_, SqL.of gL⟩, fun C hC => ?_⟩
      refine lc_map (walk_list (xs := as.map V.ref)) (fun _ => V.bl true) (by rw [List.length_map]; omega) hC (fun H' s' => SqL.of (s' _ _ gL)) ?_ ?_
      · rintro j x H' H'' Q' Z hj s' ⟨rfl, hx⟩ q'
        rw [List.getElem?_map] at hx
        obtain ⟨a, ha, rfl⟩ := Option.map_eq_some_iff.mp hx
        obtain ⟨co, hco, hev⟩ := p_at hE ha
        obtain ⟨x1, x2, x3⟩ := cos_ok T co (List.mem_of_getElem? hco)
        refine ⟨rfl, yesI ?_⟩
        refine ⟨_, rfl, a, co.1, _, _, true, rfl, (hev.keep s').at_, x1, .own _, x2, _, rfl, iteT ?_⟩
        refine ⟨_, rfl, a, co.1, _, _, true, rfl, (hev.keep s').at_, x1, .ty _, x3, ?_⟩
        exact q' _ (Same.refl _)
      intro H2 s2 hC2
      refine ⟨C, (List.replicate 17 true).map V.bl, rfl, .inl (SqL.of (by rw [hC2, List.length_map, hal]; rfl)), rfl, flatB _, _, rfl, ifF (by rw [inB (b := false)]; rfl) ?_⟩
      exact ⟨L, rfl, as, s2 _ _ gL, pmap (fun _ _ z => ErrV.keep z s2) hE⟩
    rintro σ' H1 ⟨L, rfl, as, gL, hE⟩
    refine ⟨fun σ' H' => ∃ (L : Addr) (v3 v4 v5 : Option V), σ' = [some (.ref p), some (.int (m : Nat)), some (.ref L), v3, v4, v5, none, none] ∧ EL H' L (m : Nat) (cos17 T), ?_, ?_⟩
    · have hal : as.length = 17 := p_len hE
      refine ⟨_, rfl, L, _, rfl, SqL.of gL, ?_⟩
      refine for_it (walk_enum (K := K) (a := L) (xs := as.map V.ref)) (fun j σ H' => ∃ v3 v4 v5 : Option V, σ = [some (.ref p), some (.int (m : Nat)), some (.ref L), v3, v4, v5, none, none] ∧ Same H1 H') ⟨_, _, _, rfl, Same.refl _⟩ (fun j σ H' _ ⟨_, _, _, _, s'⟩ => SqL.of (s' _ _ gL)) ?_ ?_
      · rintro j y σ H4 H4' hj ⟨v3, v4, v5, rfl, s4⟩ ⟨tp, z1, z2, rfl, htp, rfl, e1, e2⟩
        cases e1
        replace e2 : (as.map V.ref)[j]? = some z2 := e2
        rw [List.getElem?_map] at e2
        obtain ⟨a, ha, rfl⟩ := Option.map_eq_some_iff.mp e2
        obtain ⟨co, hco, hev⟩ := p_at hE ha
        obtain ⟨x1, x2, x3⟩ := cos_ok T co (List.mem_of_getElem? hco)
        obtain ⟨kp⟩ := kits17 T j co hco
        generalize hbs : (List.range 17).map (fun i => decide (i = j)) = bs at kp
        rcases kp with _ | @⟨_, b0, _, _, k0, kp⟩
        rcases kp with _ | @⟨_, b1, _, _, k1, kp⟩
        rcases kp with _ | @⟨_, b2, _, _, k2, kp⟩
        rcases kp with _ | @⟨_, b3, _, _, k3, kp⟩
        rcases kp with _ | @⟨_, b4, _, _, k4, kp⟩
        rcases kp with _ | @⟨_, b5, _, _, k5, kp⟩
        rcases kp with _ | @⟨_, b6, _, _, k6, kp⟩
        rcases kp with _ | @⟨_, b7, _, _, k7, kp⟩
        rcases kp with _ | @⟨_, b8, _, _, k8, kp⟩
        rcases kp with _ | @⟨_, b9, _, _, k9, kp⟩
        rcases kp with _ | @⟨_, b10, _, _, k10, kp⟩
        rcases kp with _ | @⟨_, b11, _, _, k11, kp⟩
        rcases kp with _ | @⟨_, b12, _, _, k12, kp⟩
        rcases kp with _ | @⟨_, b13, _, _, k13, kp⟩
        rcases kp with _ | @⟨_, b14, _, _, k14, kp⟩
        rcases kp with _ | @⟨_, b15, _, _, k15, kp⟩
        rcases kp with _ | @⟨_, b16, _, _, k16, kp⟩
        cases kp
        have s5 := s4.trans (Same.new (o := .tup [.int (j : Nat), .ref a]) htp)
        refine ⟨tp, _, rfl, SqT.of upd_same, rfl, _, _, rfl, _, _, rfl, rfl, ?_⟩
        have hA0 : ErrAt (upd _ tp (.tup [.int (j : Nat), .ref a])) a co.1 := (hev.keep s5).at_
        show tSeq _ _ _ _ (upd _ tp (.tup [.int (j : Nat), .ref a]))
        generalize upd _ tp (.tup [.int (j : Nat), .ref a]) = X0 at s5 hA0 ⊢
        refine ⟨_, rfl, a, co.1, _, _, b0, rfl, hA0, x1, .own _, k0, ?_⟩
        refine ⟨_, rfl, a, co.1, _, _, b1, rfl, hA0, x1, .own _, k1, ?_⟩
        refine ⟨_, rfl, a, co.1, _, _, b2, rfl, hA0, x1, .own _, k2, ?_⟩
        refine ⟨by show 3 ≤ sizeLine; decide, fun m0 hm0 => ?_⟩
        have t0 := Same.new (o := .lst [.bl b0, .bl b1, .bl b2]) hm0
        have g0 : upd X0 m0 (.lst [.bl b0, .bl b1, .bl b2]) m0 = some (.lst [.bl b0, .bl b1, .bl b2]) := upd_same
        have hA1 := hA0.keep t0
        show tSeq _ _ _ _ (upd X0 m0 (.lst [.bl b0, .bl b1, .bl b2]))
        generalize upd X0 m0 (.lst [.bl b0, .bl b1, .bl b2]) = X1 at t0 g0 hA1 ⊢
        refine ⟨_, rfl, ?_⟩
        refine ⟨_, rfl, a, co.1, _, _, b3, rfl, hA1, x1, .own _, k3, ?_⟩
        refine ⟨_, rfl, a, co.1, _, _, b4, rfl, hA1, x1, .own _, k4, ?_⟩
        refine ⟨_, rfl, a, co.1, _, _, b5, rfl, hA1, x1, .own _, k5, ?_⟩
        refine ⟨by show 3 ≤ sizeLine; decide, fun l1 hl1 => ?_⟩
        have u1 := Same.new (o := .lst [.bl b3, .bl b4, .bl b5]) hl1
        refine ⟨m0, l1, _, _, rfl, rfl, u1 _ _ g0, upd_same, by show 3 + 3 ≤ sizeLine; decide, fun m1 hm1 => ?_⟩
        have t1 := u1.trans (Same.new (o := .lst ([.bl b0, .bl b1, .bl b2] ++ [.bl b3, .bl b4, .bl b5])) hm1)
        have g1 : upd (upd X1 l1 (.lst [.bl b3, .bl b4, .bl b5])) m1 (.lst ([.bl b0, .bl b1, .bl b2] ++ [.bl b3, .bl b4, .bl b5])) m1 = some (.lst [.bl b0, .bl b1, .bl b2, .bl b3, .bl b4, .bl b5]) := upd_same
        have hA2 := hA1.keep t1
        show tSeq _ _ _ _ (upd (upd X1 l1 (.lst [.bl b3, .bl b4, .bl b5])) m1 (.lst ([.bl b0, .bl b1, .bl b2] ++ [.bl b3, .bl b4, .bl b5])))
        generalize upd (upd X1 l1 (.lst [.bl b3, .bl b4, .bl b5])) m1 (.lst ([.bl b0, .bl b1, .bl b2] ++ [.bl b3, .bl b4, .bl b5])) = X2 at t1 g1 hA2 ⊢
        refine ⟨_, rfl, ?_⟩
        refine ⟨_, rfl, a, co.1, _, _, b6, rfl, hA2, x1, .own _, k6, ?_⟩
        refine ⟨_, rfl, a, co.1, _, _, b7, rfl, hA2, x1, .own _, k7, ?_⟩
        refine ⟨_, rfl, a, co.1, _, _, b8, rfl, hA2, x1, .own _, k8, ?_⟩
        refine ⟨by show 3 ≤ sizeLine; decide, fun l2 hl2 => ?_⟩
        have u2 := Same.new (o := .lst [.bl b6, .bl b7, .bl b8]) hl2
        refine ⟨m1, l2, _, _, rfl, rfl, u2 _ _ g1, upd_same, by show 6 + 3 ≤ sizeLine; decide, fun m2 hm2 => ?_⟩
        have t2 := u2.trans (Same.new (o := .lst ([.bl b0, .bl b1, .bl b2, .bl b3, .bl b4, .bl b5] ++ [.bl b6, .bl b7, .bl b8])) hm2)
        have g2 : upd (upd X2 l2 (.lst [.bl b6, .bl b7, .bl b8])) m2 (.lst ([.bl b0, .bl b1, .bl b2, .bl b3, .bl b4, .bl b5] ++ [.bl b6, .bl b7, .bl b8])) m2 = some (.lst [.bl b0, .bl b1, .bl b2, .bl b3, .bl b4, .bl b5, .bl b6, .bl b7, .bl b8]) := upd_same
        have hA3 := hA2.keep t2
        show tSeq _ _ _ _ (upd (upd X2 l2 (.lst [.bl b6, .bl b7, .bl b8])) m2 (.lst ([.bl b0, .bl b1, .bl b2, .bl b3, .bl b4, .bl b5] ++ [.bl b6, .bl b7, .bl b8])))
        generalize upd (upd X2 l2 (.lst [.bl b6, .bl b7, .bl b8])) m2 (.lst ([.bl b0, .bl b1, .bl b2, .bl b3, .bl b4, .bl b5] ++ [.bl b6, .bl b7, .bl b8])) = X3 at t2 g2 hA3 ⊢
        refine ⟨_, rfl, ?_⟩
        refine ⟨_, rfl, a, co.1, _, _, b9, rfl, hA3, x1, .own _, k9, ?_⟩
        refine ⟨_, rfl, a, co.1, _, _, b10, rfl, hA3, x1, .own _, k10, ?_⟩
        refine ⟨_, rfl, a, co.1, _, _, b11, rfl, hA3, x1, .own _, k11, ?_⟩
        refine ⟨by show 3 ≤ sizeLine; decide, fun l3 hl3 => ?_⟩
        have u3 := Same.new (o := .lst [.bl b9, .bl b10, .bl b11]) hl3
        refine ⟨m2, l3, _, _, rfl, rfl, u3 _ _ g2, upd_same, by show 9 + 3 ≤ sizeLine; decide, fun m3 hm3 => ?_⟩
        have t3 := u3.trans (Same.new (o := .lst ([.bl b0, .bl b1, .bl b2, .bl b3, .bl b4, .bl b5, .bl b6, .bl b7, .bl b8] ++ [.bl b9, .bl b10, .bl b11])) hm3)
        have g3 : upd (upd X3 l3 (.lst [.bl b9, .bl b10, .bl b11])) m3 (.lst ([.bl b0, .bl b1, .bl b2, .bl b3, .bl b4, .bl b5, .bl b6, .bl b7, .bl b8] ++ [.bl b9, .bl b10, .bl b11])) m3 = some (.lst [.bl b0, .bl b1, .bl b2, .bl b3, .bl b4, .bl b5, .bl b6, .bl b7, .bl b8, .bl b9, .bl b10, .bl b11]) := upd_same
        have hA4 := hA3.keep t3
        show tSeq _ _ _ _ (upd (upd X3 l3 (.lst [.bl b9, .bl b10, .bl b11])) m3 (.lst ([.bl b0, .bl b1, .bl b2, .bl b3, .bl b4, .bl b5, .bl b6, .bl b7, .bl b8] ++ [.bl b9, .bl b10, .bl b11])))
        generalize upd (upd X3 l3 (.lst [.bl b9, .bl b10, .bl b11])) m3 (.lst ([.bl b0, .bl b1, .bl b2, .bl b3, .bl b4, .bl b5, .bl b6, .bl b7, .bl b8] ++ [.bl b9, .bl b10, .bl b11])) = X4 at t3 g3 hA4 ⊢
        refine ⟨_, rfl, ?_⟩
        refine ⟨_, rfl, a, co.1, _, _, b12, rfl, hA4, x1, .own _, k12, ?_⟩
        refine ⟨_, rfl, a, co.1, _, _, b13, rfl, hA4, x1, .own _, k13, ?_⟩
        refine ⟨_, rfl, a, co.1, _, _, b14, rfl, hA4, x1, .own _, k14, ?_⟩
        refine ⟨by show 3 ≤ sizeLine; decide, fun l4 hl4 => ?_⟩
        have u4 := Same.new (o := .lst [.bl b12, .bl b13, .bl b14]) hl4
        refine ⟨m3, l4, _, _, rfl, rfl, u4 _ _ g3, upd_same, by show 12 + 3 ≤ sizeLine; decide, fun m4 hm4 => ?_⟩
        have t4 := u4.trans (Same.new (o := .lst ([.bl b0, .bl b1, .bl b2, .bl b3, .bl b4, .bl b5, .bl b6, .bl b7, .bl b8, .bl b9, .bl b10, .bl b11] ++ [.bl b12, .bl b13, .bl b14])) hm4)
        have g4 : upd (upd X4 l4 (.lst [.bl b12, .bl b13, .bl b14])) m4 (.lst ([.bl b0, .bl b1, .bl b2, .bl b3, .bl b4, .bl b5, .bl b6, .bl b7, .bl b8, .bl b9, .bl b10, .bl b11] ++ [.bl b12, .bl b13, .bl b14])) m4 = some (.lst [.bl b0, .bl b1, .bl b2, .bl b3, .bl b4, .bl b5, .bl b6, .bl b7, .bl b8, .bl b9, .bl b10, .bl b11, .bl b12, .bl b13, .bl b14]) := upd_same
        have hA5 := hA4.keep t4
        show tSeq _ _ _ _ (upd (upd X4 l4 (.lst [.bl b12, .bl b13, .bl b14])) m4 (.lst ([.bl b0, .bl b1, .bl b2, .bl b3, .bl b4, .bl b5, .bl b6, .bl b7, .bl b8, .bl b9, .bl b10, .bl b11] ++ [.bl b12, .bl b13, .bl b14])))
        generalize upd (upd X4 l4 (.lst [.bl b12, .bl b13, .bl b14])) m4 (.lst ([.bl b0, .bl b1, .bl b2, .bl b3, .bl b4, .bl b5, .bl b6, .bl b7, .bl b8, .bl b9, .bl b10, .bl b11] ++ [.bl b12, .bl b13, .bl b14])) = X5 at t4 g4 hA5 ⊢
        refine ⟨_, rfl, ?_⟩
        refine ⟨_, rfl, a, co.1, _, _, b15, rfl, hA5, x1, .own _, k15, ?_⟩
        refine ⟨_, rfl, a, co.1, _, _, b16, rfl, hA5, x1, .own _, k16, ?_⟩
        refine ⟨by show 2 ≤ sizeLine; decide, fun l5 hl5 => ?_⟩
        have u5 := Same.new (o := .lst [.bl b15, .bl b16]) hl5
        refine ⟨m4, l5, _, _, rfl, rfl, u5 _ _ g4, upd_same, by show 15 + 2 ≤ sizeLine; decide, fun m5 hm5 => ?_⟩
        have t5 := u5.trans (Same.new (o := .lst ([.bl b0, .bl b1, .bl b2, .bl b3, .bl b4, .bl b5, .bl b6, .bl b7, .bl b8, .bl b9, .bl b10, .bl b11, .bl b12, .bl b13, .bl b14] ++ [.bl b15, .bl b16])) hm5)
        have g5 : upd (upd X5 l5 (.lst [.bl b15, .bl b16])) m5 (.lst ([.bl b0, .bl b1, .bl b2, .bl b3, .bl b4, .bl b5, .bl b6, .bl b7, .bl b8, .bl b9, .bl b10, .bl b11, .bl b12, .bl b13, .bl b14] ++ [.bl b15, .bl b16])) m5 = some (.lst [.bl b0, .bl b1, .bl b2, .bl b3, .bl b4, .bl b5, .bl b6, .bl b7, .bl b8, .bl b9, .bl b10, .bl b11, .bl b12, .bl b13, .bl b14, .bl b15, .bl b16]) := upd_same
        have hA6 := hA5.keep t5
        show tSeq _ _ _ _ (upd (upd X5 l5 (.lst [.bl b15, .bl b16])) m5 (.lst ([.bl b0, .bl b1, .bl b2, .bl b3, .bl b4, .bl b5, .bl b6, .bl b7, .bl b8, .bl b9, .bl b10, .bl b11, .bl b12, .bl b13, .bl b14] ++ [.bl b15, .bl b16])))
        generalize upd (upd X5 l5 (.lst [.bl b15, .bl b16])) m5 (.lst ([.bl b0, .bl b1, .bl b2, .bl b3, .bl b4, .bl b5, .bl b6, .bl b7, .bl b8, .bl b9, .bl b10, .bl b11, .bl b12, .bl b13, .bl b14] ++ [.bl b15, .bl b16])) = X6 at t5 g5 hA6 ⊢
        refine ⟨_, rfl, 17, rfl, by decide, by decide, fun D hD => ?_⟩
        refine lc_map walk_range (fun i => V.bl (decide (i = j))) (by decide) hD (fun _ _ => True.intro) ?_ ?_
        · rintro i x H' H'' Q' Z hi s' ⟨rfl, rfl⟩ q'
          refine ⟨rfl, yesI ⟨_, rfl, _, rfl, rfl, Q_bl (q' _ (Same.refl _)) ?_⟩⟩
          show decide (i = j) = decide (V.int (0 + (i : Int)) = V.int (j : Int))
          rw [Int.zero_add]; exact decI.symm
        intro H2 s2 hC2
        have hC3 : H2 D = some (.lst (([b0, b1, b2, b3, b4, b5, b6, b7, b8, b9, b10, b11, b12, b13, b14, b15, b16] : List Bool).map V.bl)) := by
          rw [hC2, ← hbs, List.map_map]; rfl
        refine ⟨.list (([b0, b1, b2, b3, b4, b5, b6, b7, b8, b9, b10, b11, b12, b13, b14, b15, b16] : List Bool).map PyData.bool), .list (([b0, b1, b2, b3, b4, b5, b6, b7, b8, b9, b10, b11, b12, b13, b14, b15, b16] : List Bool).map PyData.bool), .lst (SqL.of (s2 _ _ g5)) (dp_bools [b0, b1, b2, b3, b4, b5, b6, b7, b8, b9, b10, b11, b12, b13, b14, b15, b16]), .lst (SqL.of hC3) (dp_bools [b0, b1, b2, b3, b4, b5, b6, b7, b8, b9, b10, b11, b12, b13, b14, b15, b16]), bools_shaped (by show 17 ≤ 1000; decide), bools_shaped (by show 17 ≤ 1000; decide), _, rfl, ifF (by rw [eqv_bools]; rfl) ?_⟩
        exact ⟨_, _, _, rfl, s5.trans (t0.trans (t1.trans (t2.trans (t3.trans (t4.trans (t5.trans s2))))))⟩
      · rintro σ H4 ⟨v3, v4, v5, rfl, s4⟩
        exact ⟨L, _, _, _, rfl, as, s4 _ _ gL, pmap (fun _ _ z => ErrV.keep z s4) hE⟩
    rintro σ' H1 ⟨L, v3, v4, v5, rfl, as, gL, hE⟩
    unfold cos17 at hE
    rcases hE with _ | @⟨a0, _, _, _, e0, hE⟩
    rcases hE with _ | @⟨a1, _, _, _, e1, hE⟩
    rcases hE with _ | @⟨a2, _, _, _, e2, hE⟩
    rcases hE with _ | @⟨a3, _, _, _, e3, hE⟩
    rcases hE with _ | @⟨a4, _, _, _, e4, hE⟩
    rcases hE with _ | @⟨a5, _, _, _, e5, hE⟩
    rcases hE with _ | @⟨a6, _, _, _, e6, hE⟩
    rcases hE with _ | @⟨a7, _, _, _, e7, hE⟩
    rcases hE with _ | @⟨a8, _, _, _, e8, hE⟩
    rcases hE with _ | @⟨a9, _, _, _, e9, hE⟩
    rcases hE with _ | @⟨a10, _, _, _, e10, hE⟩
    rcases hE with _ | @⟨a11, _, _, _, e11, hE⟩
    rcases hE with _ | @⟨a12, _, _, _, e12, hE⟩
    rcases hE with _ | @⟨a13, _, _, _, e13, hE⟩
    rcases hE with _ | @⟨a14, _, _, _, e14, hE⟩
    rcases hE with _ | @⟨a15, _, _, _, e15, hE⟩
    rcases hE with _ | @⟨a16, _, _, _, e16, hE⟩
    cases hE
    have f10 : ErrF H1 a10 T.C_NoOctets [("place", .int (m : Nat))] := e10
    have f11 : ErrF H1 a11 T.C_BadTable [("number", .int (m : Nat))] := e11
    have f12 : ErrF H1 a12 T.C_BadBlock [("stream", .int (m : Nat))] := e12
    have f13 : ErrF H1 a13 T.C_TooMany [("stream", .int (m : Nat))] := e13
    have f14 : ErrF H1 a14 T.C_BadAnswer [("number", .int (m : Nat))] := e14
    have f15 : ErrF H1 a15 T.C_BadOrder [("number", .int (m : Nat))] := e15
    have f16 : ErrF H1 a16 T.C_NoAnswer [("event", .int (m : Nat))] := e16
    refine ⟨_, rfl, _, _, _, _, rfl, rfl, SqL.of gL, rfl, a10, T.C_NoOctets, _, .int (m : Nat), rfl, xfc_of T.X_NoOctets.x, T.E_NoOctets.no, f10, rfl, ?_⟩
    refine ⟨_, rfl, _, _, _, _, rfl, rfl, SqL.of gL, rfl, a11, T.C_BadTable, _, .int (m : Nat), rfl, xfc_of T.X_BadTable.x, T.E_BadTable.no, f11, rfl, ?_⟩
    refine ⟨_, rfl, _, _, _, _, rfl, rfl, SqL.of gL, rfl, a12, T.C_BadBlock, _, .int (m : Nat), rfl, xfc_of T.X_BadBlock.x, T.E_BadBlock.no, f12, rfl, ?_⟩
    refine ⟨_, rfl, _, _, _, _, rfl, rfl, SqL.of gL, rfl, a13, T.C_TooMany, _, .int (m : Nat), rfl, xfc_of T.X_TooMany.x, T.E_TooMany.no, f13, rfl, ?_⟩
    refine ⟨_, rfl, _, _, _, _, rfl, rfl, SqL.of gL, rfl, a14, T.C_BadAnswer, _, .int (m : Nat), rfl, xfc_of T.X_BadAnswer.x, T.E_BadAnswer.no, f14, rfl, ?_⟩
    refine ⟨by show 5 ≤ sizeLine; decide, fun t1 ht1 => ?_⟩
    have s1 := Same.new (o := .lst [.int (m : Nat), .int (m : Nat), .int (m : Nat), .int (m : Nat), .int (m : Nat)]) ht1
    have g1 : upd H1 t1 (.lst [.int (m : Nat), .int (m : Nat), .int (m : Nat), .int (m : Nat), .int (m : Nat)]) t1 = some (.lst [.int (m : Nat), .int (m : Nat), .int (m : Nat), .int (m : Nat), .int (m : Nat)]) := upd_same
    have f15' := f15.keep s1
    have f16' := f16.keep s1
    have gL1 := s1 _ _ gL
    show tSeq _ _ _ _ (upd H1 t1 (.lst [.int (m : Nat), .int (m : Nat), .int (m : Nat), .int (m : Nat), .int (m : Nat)]))
    generalize upd H1 t1 (.lst [.int (m : Nat), .int (m : Nat), .int (m : Nat), .int (m : Nat), .int (m : Nat)]) = H2 at s1 g1 f15' f16' gL1 ⊢
    refine ⟨_, rfl, ?_⟩
    refine ⟨_, rfl, _, _, _, _, rfl, rfl, SqL.of gL1, rfl, a15, T.C_BadOrder, _, .int (m : Nat), rfl, xfc_of T.X_BadOrder.x, T.E_BadOrder.no, f15', rfl, ?_⟩
    refine ⟨_, rfl, _, _, _, _, rfl, rfl, SqL.of gL1, rfl, a16, T.C_NoAnswer, _, .int (m : Nat), rfl, xfc_of T.X_NoAnswer.x, T.E_NoAnswer.no, f16', rfl, ?_⟩
    refine ⟨by show 2 ≤ sizeLine; decide, fun t2 ht2 => ?_⟩
    have s2 := Same.new (o := .lst [.int (m : Nat), .int (m : Nat)]) ht2
    refine ⟨t1, t2, _, _, rfl, rfl, s2 _ _ g1, upd_same, by show 5 + 2 ≤ sizeLine; decide, fun t3 ht3 => ?_⟩
    have hd7 : DvAll K (upd (upd H2 t2 (.lst [.int (m : Nat), .int (m : Nat)])) t3 (.lst ([.int (m : Nat), .int (m : Nat), .int (m : Nat), .int (m : Nat), .int (m : Nat)] ++ [.int (m : Nat), .int (m : Nat)]))) ([.int (m : Nat), .int (m : Nat), .int (m : Nat), .int (m : Nat), .int (m : Nat)] ++ [.int (m : Nat), .int (m : Nat)]) (List.replicate 7 (PyData.int (m : Nat))) := .cons (.int _) (.cons (.int _) (.cons (.int _) (.cons (.int _) (.cons (.int _) (.cons (.int _) (.cons (.int _) .nil))))))
    have z7 : Sz 20000 1 (.list (List.replicate 7 (PyData.int (m : Nat)))) := by
      obtain ⟨h1, h2, h3⟩ := sz_many (b := 1010) (k := 0) (ds := List.replicate 7 (PyData.int (m : Nat))) fun d hd => by rw [List.eq_of_mem_replicate hd]; exact sz_small (by omega)
      exact sz_lst' h1 (by rw [List.length_replicate] at h2; omega) h3
    refine ⟨.ref t3, .list (List.replicate 7 (PyData.int (m : Nat))), rfl, .lst (SqL.of upd_same) hd7, z7.ok, Nat.le_trans z7.dp (by decide), Nat.le_trans z7.w (by decide), ?_⟩
    have s3 := Same.new (o := .lst ([.int (m : Nat), .int (m : Nat), .int (m : Nat), .int (m : Nat), .int (m : Nat)] ++ [.int (m : Nat), .int (m : Nat)])) ht3
    refine ⟨_, rfl, by show 1 ≤ sizeLine; decide, fun t4 ht4 => ?_⟩
    refine ⟨t4, 7, [.int (m : Nat)], rfl, rfl, upd_same, by decide, by decide, by show 1 * 7 ≤ sizeLine; decide, fun t5 ht5 => ?_⟩
    have hd8 : ∀ H', DvAll K H' (List.replicate (Int.toNat 7) [V.int (m : Nat)]).flatten (List.replicate 7 (PyData.int (m : Nat))) := fun _ => .cons (.int _) (.cons (.int _) (.cons (.int _) (.cons (.int _) (.cons (.int _) (.cons (.int _) (.cons (.int _) .nil))))))
    refine ⟨.ref t5, .list (List.replicate 7 (PyData.int (m : Nat))), rfl, .lst (SqL.of upd_same) (hd8 _), z7.ok, Nat.le_trans z7.dp (by decide), Nat.le_trans z7.w (by decide), ?_⟩
    refine ⟨rfl, Q_bl (q _) ?_⟩
    exact (decide_eq_true rfl).symm

theorem ok_law (T : Txt K mg) : TopOk P w K mg 6 T.f_law T.d_law ["script"] (spLaw K) := by
  refine top_of T.F_law sc_law (fun vs H Q E h => ?_) (fun base cdv A outer s H vs Q E hA hr h => ?_)
  · obtain ⟨a, ns, rfl, _⟩ := h
    rfl
  · obtain ⟨a, ns, rfl, hS, hl, q⟩ := h
    have hgd : (A.deeper (envOfC "law" (defScope s_law) s.heap.objs.size T.f_law cdv)).guards = some [] := hA
    have hud : (A.deeper (envOfC "law" (defScope s_law) s.heap.objs.size T.f_law cdv)).units + 64 < cLine := by have := hr.un; omega
    refine ⟨_, (pss_cons (ps_set (i := 1) sc_law.nd rfl (Or.inr rfl) (pe_call (ok_law_open T) (hr.mono (by decide)) rfl T.g_law_open T.F_law_open.kp T.b_law_open .nil pass0 (pa_cons (pv 0) pa_nil)))
      (pss_cons (ps_for PassesOwn.never rfl (pi_range1 rfl T.z_range (pa_cons pe_int pa_nil)) (pg_name (i := 2) sc_law.nd rfl (Or.inl rfl))
        (Evl.pss_cut (ps_set (i := 3) sc_law.nd rfl (Or.inl rfl) (pe_op op_mod (pv 2) pe_int))
      (Evl.pss_cut (ps_set (i := 4) sc_law.nd rfl (Or.inr rfl) (pe_lst (pa_cons (pe_ifExp (pt_cmpR op_eq (pv 3) pe_int (nomark _)) (pe_call (ok_law_draw_number T) (hr.mono (by decide)) rfl T.g_law_draw_number T.F_law_draw_number.kp T.b_law_draw_number .nil pass0 (pa_cons (pv 1) pa_nil)) (pe_call (ok_law_draw_text T) (hr.mono (by decide)) rfl T.g_law_draw_text T.F_law_draw_text.kp T.b_law_draw_text .nil pass0 (pa_cons (pv 1) (pa_cons pe_int (pa_cons pe_int pa_nil))))) (pa_cons (pe_op op_add pe_int (pe_call (ok_law_take T) (hr.mono (by decide)) rfl T.g_law_take T.F_law_take.kp T.b_law_take .nil pass0 (pa_cons (pv 1) (pa_cons pe_int pa_nil)))) (pa_cons pe_int pa_nil)))))
      (Evl.pss_cut (ps_set (i := 5) sc_law.nd rfl (Or.inl rfl) (pe_ifExp (pt_cmpR op_eq (pv 3) pe_int (nomark _)) (pe_lst (pa_cons pe_non (pa_cons pe_bl (pa_cons (pe_un un_neg pe_int) (pa_cons pe_int (pa_cons (pe_op op_pow pe_int pe_int) (pa_cons pe_str (pa_cons (pe_lst (pa_cons pe_int pa_nil)) (pa_cons (pe_tup (pa_cons pe_int pa_nil)) (pa_cons pe_dnewK pa_nil)))))))))) (pe_lst (pa_cons (pe_call (ok_law_wrong_text T) (hr.mono (by decide)) rfl T.g_law_wrong_text T.F_law_wrong_text.kp T.b_law_wrong_text .nil pass0 (pa_cons (pv 1) pa_nil)) pa_nil))))
      (Evl.pss_cut (ps_set (i := 6) sc_law.nd rfl (Or.inr rfl) (pe_lst (pa_cons (pe_call (ok_law_one_of T) (hr.mono (by decide)) rfl T.g_law_one_of T.F_law_one_of.kp T.b_law_one_of .nil pass0 (pa_cons (pv 1) (pa_cons (pv 5) pa_nil))) (pa_cons (pe_call (ok_law_one_of T) (hr.mono (by decide)) rfl T.g_law_one_of T.F_law_one_of.kp T.b_law_one_of .nil pass0 (pa_cons (pv 1) (pa_cons (pe_lst (pa_cons pe_int (pa_cons pe_int (pa_cons (pe_un un_neg pe_int) (pa_cons pe_non (pa_cons pe_bl (pa_cons pe_str (pa_cons (pe_op op_pow pe_int pe_int) pa_nil)))))))) pa_nil))) pa_nil))))
      (Evl.pss_cut (ps_set (i := 7) sc_law.nd rfl (Or.inl rfl) pe_int)
      (Evl.pss_cut (ps_for PassesOwn.never rfl (pi_range1 rfl T.z_range (pa_cons (pe_ix ix_list (pv 4) pe_int (fun _ _ => rfl)) pa_nil)) (pg_name (i := 8) sc_law.nd rfl (Or.inl rfl))
        (pss_one (ps_set (i := 7) sc_law.nd rfl (Or.inl rfl) (pe_op op_mul (pv 7) pe_int))))
      (Evl.pss_cut (ps_set (i := 9) sc_law.nd rfl (Or.inl rfl) (pe_op op_add (pe_op op_add (pe_op op_mul (pv 7) (pe_call (ok_law_take T) (hr.mono (by decide)) rfl T.g_law_take T.F_law_take.kp T.b_law_take .nil pass0 (pa_cons (pv 1) (pa_cons (pe_op op_fdiv pe_int (pv 7)) pa_nil)))) pe_int) (pe_call (ok_law_take T) (hr.mono (by decide)) rfl T.g_law_take T.F_law_take.kp T.b_law_take .nil pass0 (pa_cons (pv 1) (pa_cons (pe_op op_sub (pv 7) pe_int) pa_nil)))))
      (Evl.pss_cut (ps_expr (pe_bm PySem.F.plainAttrs_list PySem.F.slot_list_append PySem.F.type_list_append mt_append (pv 6) (pa_cons (pe_call (ok_law_one_of T) (hr.mono (by decide)) rfl T.g_law_one_of T.F_law_one_of.kp T.b_law_one_of .nil pass0 (pa_cons (pv 1) (pa_cons (pe_lst (pa_cons (pe_un un_neg pe_int) (pa_cons pe_int (pa_cons pe_int (pa_cons pe_int (pa_cons (pe_op op_fdiv (pv 7) pe_int) (pa_cons pe_non (pa_cons pe_bl (pa_cons pe_str (pa_cons (pe_op op_pow pe_int pe_int) (pa_cons (pv 9) (pa_cons (pv 9) (pa_cons (pv 9) pa_nil))))))))))))) pa_nil))) pa_nil)))
      (Evl.pss_cut (ps_set (i := 10) sc_law.nd rfl (Or.inr rfl) (pe_lc (own := [("one", 11)]) (g := (gName 11)) (tt := tYes)  rfl sc_law.nd (pi_list (pv 4)) (blkOk_by (own := [("one", 11)]) (N := ["script", "pen", "turn", "way", "good", "odd", "bad", "unit", "bit", "middle", "wrong", "one", "some", "k", "seen"]) (sc := defScope s_law) (by decide +kernel)) (fun _ _ _ _ _ => (pg_name (i := 11) sc_law.nd rfl (Or.inl rfl))) (fun _ _ _ _ _ => pts_nil) (fun _ _ _ _ _ => (pe_cmpR op_eq (pe_call (ok_law_take T) (hr.mono (by decide)) rfl T.g_law_take T.F_law_take.kp T.b_law_take .nil pass0 (pa_cons (pv 1) (pa_cons pe_int pa_nil))) pe_int (nomark _)))))
      (Evl.pss_cut (ps_if (pt_cmpR op_notIn_seq pe_bl (pv 10) rfl) (pss_one (ps_asg pe_bl (pg_sub (pv 10) (pe_call (ok_law_take T) (hr.mono (by decide)) rfl T.g_law_take T.F_law_take.kp T.b_law_take .nil pass0 (pa_cons (pv 1) (pa_cons pe_int pa_nil))) set_list))) pss_nil)
      (Evl.pss_cut (ps_setLc (i := 12) (own := [("k", 13)]) (g := (gName 13)) (tt := tYes)  rfl sc_law.nd rfl rfl (sw_true rfl rfl rfl (by decide +kernel)) (pi_range1 rfl T.z_range (pa_cons pe_int pa_nil)) (blkOk_by (own := [("k", 13)]) (N := ["script", "pen", "turn", "way", "good", "odd", "bad", "unit", "bit", "middle", "wrong", "one", "some", "k", "seen"]) (sc := defScope s_law) (by decide +kernel)) (fun _ _ _ _ _ => (pg_name (i := 13) sc_law.nd rfl (Or.inl rfl))) (fun _ _ _ _ _ => pts_nil) (fun _ _ _ _ _ => (pe_ifExp (pt_val (pe_ix (ixK (K := K) (r := rIxL) ix_list) (pv 10) (pv 13) (fun _ _ => rfl))) (pe_ix (ixK (K := K) (r := rIxL) ix_list) (pv 6) (pv 13) (fun _ _ => rfl)) (pe_ix (ixK (K := K) (r := rIxL) ix_list) (pv 4) (pv 13) (fun _ _ => rfl)))))
      (pss_cons (ps_set (i := 14) sc_law.nd rfl (Or.inl rfl) (pe_callB (call_reprV hgd hud) rfl T.z_repr boot_repr (pa_cons (pv 12) pa_nil)))
      (pss_one (ps_if (PW.pt (pw_or (pt_not (pt_val (pe_call (ok_law_is_refused T) (hr.mono (by decide)) rfl T.g_law_is_refused T.F_law_is_refused.kp T.b_law_is_refused .nil pass0 (pa_cons (pv 3) (pa_cons (pe_ix ix_list (pv 12) pe_int (fun _ _ => rfl)) (pa_cons (pe_ix ix_list (pv 12) pe_int (fun _ _ => rfl)) (pa_cons (pe_ix ix_list (pv 12) pe_int (fun _ _ => rfl)) pa_nil))))))) (pw_or1 (pt_cmpR op_ne (pe_callB (call_reprV hgd hud) rfl T.z_repr boot_repr (pa_cons (pv 12) pa_nil)) (pv 14) (nomark _))))) (pss_one (ps_ret pe_bl)) pss_nil)))))))))))))))
      (pss_one (ps_ret (pe_callM hgd (ok_law_made_right T) (hr.mono (by decide)) rfl T.g_law_made_right T.F_law_made_right.kp T.b_law_made_right pass0 (pa_cons (pv 1) pa_nil)))))), ?_⟩
    refine ⟨_, rfl, a, ns, rfl, hS, hl, fun p c H1 hp s1 P1 => ?_⟩
    refine ⟨_, rfl, by decide, by decide, ?_⟩
    refine for_range (lo := 0) (n := 20) (fun i σ H' => ∃ v2 v3 v4 v5 v6 v7 v8 v9 v10 v12 v14 : Option V, σ = [some (.ref a), some (.ref p), v2, v3, v4, v5, v6, v7, v8, v9, v10, none, v12, none, v14] ∧ Pen H' p c (200 * i)) ⟨_, _, _, _, _, _, _, _, _, _, _, rfl, P1⟩ ?_ ?_
    · rintro i σ H2 hi ⟨v2, v3, v4, v5, v6, v7, v8, v9, v10, v12, v14, rfl, P2⟩
      refine ⟨fun σ' H' => ∃ wy : Int, (wy = 0 ∨ wy = 1) ∧ σ' = [some (.ref a), some (.ref p), some (.int (0 + (i : Int))), some (.int wy), v4, v5, v6, v7, v8, v9, v10, none, v12, none, v14] ∧ H' = H2, ?_, ?_⟩
      · refine ⟨_, rfl, _, _, rfl, rfl, by show (0 : Int) < 2; decide, ?_⟩
        exact ⟨(0 + (i : Int)) % 2, by omega, rfl, rfl⟩
      rintro σ' H3 ⟨wy, hwy, rfl, rfl⟩
      -- good
      refine ⟨fun σ' H' => ∃ (G : Addr) (x : V) (g : Nat) (d : PyData), 1 ≤ g ∧ g ≤ 8 ∧ σ' = [some (.ref a), some (.ref p), some (.int (0 + (i : Int))), some (.int wy), some (.ref G), v5, v6, v7, v8, v9, v10, none, v12, none, v14] ∧ G ≠ p ∧ H' G = some (.lst [x, .int (g : Nat), .int 0]) ∧ Dv K (OffS [p] H') x d ∧ Sz 1100 1 d ∧ Pen H' p c (200 * i + 60), ?_, ?_⟩
      · have fin : ∀ (x : V) (d : PyData) (H4 : Hp) (n : Nat), Dv K (OffS [p] H4) x d → Sz 1100 1 d → Pen H4 p c n → n ≤ 200 * i + 55 → True := fun _ _ _ _ _ _ _ _ => True.intro
        refine ⟨_, rfl, rfl, _, rfl, ifb (fun _ => ?_) (fun _ => ?_)⟩
        · refine ⟨_, rfl, p, c, _, rfl, P2, by omega, fun z H4 hz d4 => ?_⟩
          refine ⟨_, rfl, p, c, _, 8, rfl, d4.pen, by decide, by decide, by omega, fun g H5 hg0 hg1 d5 => ?_⟩
          obtain ⟨g, rfl⟩ : ∃ k : Nat, g = (k : Int) := ⟨g.toNat, by omega⟩
          refine ⟨_, _, rfl, rfl, by show 3 ≤ sizeLine; decide, fun G hG => ?_⟩
          refine ⟨G, .int (z : Nat), g + 1, .int (z : Nat), by omega, by omega, rfl, Ne.symm (d5.pen.ne hG), ?_, .int _, (sz_small hz).mono (by decide) (by decide), (d5.pen.new hG).mono (by omega)⟩
          rw [upd_same, show ((g + 1 : Nat) : Int) = 1 + (g : Int) by omega]
        · refine ⟨_, rfl, p, c, _, 0, 40, rfl, P2, by omega, by decide, by decide, by decide, fun z H4 hz d4 => ?_⟩
          refine ⟨_, rfl, p, c, _, 8, rfl, d4.pen, by decide, by decide, by omega, fun g H5 hg0 hg1 d5 => ?_⟩
          obtain ⟨g, rfl⟩ : ∃ k : Nat, g = (k : Int) := ⟨g.toNat, by omega⟩
          refine ⟨_, _, rfl, rfl, by show 3 ≤ sizeLine; decide, fun G hG => ?_⟩
          refine ⟨G, .str z, g + 1, .str z, by omega, by omega, rfl, Ne.symm (d5.pen.ne hG), ?_, .str _, (sz_txt (b := 40) hz).mono (by decide) (by decide), (d5.pen.new hG).mono (by omega)⟩
          rw [upd_same, show ((g + 1 : Nat) : Int) = 1 + (g : Int) by omega]
      rintro σ' H3 ⟨G, x, g, d, hg1, hg8, rfl, hGp, gG, hx, hxz, P3⟩
      -- odd
      have pS : p ∈ [p] := List.mem_singleton.mpr rfl
      refine ⟨fun σ' H' => ∃ (O : Addr) (os : List V) (ods : List PyData), σ' = [some (.ref a), some (.ref p), some (.int (0 + (i : Int))), some (.int wy), some (.ref G), some (.ref O), v6, v7, v8, v9, v10, none, v12, none, v14] ∧ O ≠ p ∧ H' O = some (.lst os) ∧ os ≠ [] ∧ os.length ≤ 10 ∧ DvAll K (OffS [p] H') os ods ∧ (∀ e ∈ ods, Sz 1100 1 e ∧ (wy = 0 → dBtw e 0 9999 = false) ∧ (wy = 1 → dTxt e 0 40 = false)) ∧ But p H3 H' ∧ Pen H' p c (200 * i + 120), ?_, ?_⟩
      · have hid : Hid [p] H3 := Hid.one P3
        refine ⟨_, rfl, rfl, _, rfl, ifb (fun h => ?_) (fun h => ?_)⟩
        · have h0 : wy = 0 := by
            rcases hwy with h0 | h0
            · exact h0
            · rw [h0] at h; exact absurd h (by decide)
          refine ⟨_, rfl, _, _, rfl, rfl, ⟨by decide, by decide, by decide⟩, ?_⟩
          refine ⟨by show 1 ≤ sizeLine; decide, fun t1 ht1 => ?_⟩
          have s1 := Same.new (o := .lst [.int 7]) ht1
          have e1 : Dv K (OffS [p] (upd H3 t1 (.lst [.int 7]))) (.ref t1) (.list [.int 7]) := new_lst ht1 hid (.cons (.int _) .nil)
          have hid1 := hid.keep s1
          refine ⟨by show 1 ≤ sizeLine; decide, fun t2 ht2 => ?_⟩
          have s2 := Same.new (o := .tup [.int 7]) ht2
          have e2 : Dv K (OffS [p] (upd (upd H3 t1 (.lst [.int 7])) t2 (.tup [.int 7]))) (.ref t2) (.tuple [.int 7]) := new_tup ht2 hid1 (.cons (.int _) .nil)
          have hid2 := hid1.keep s2
          refine fun t3 ht3 => ?_
          have s3 := Same.new (o := .dK []) ht3
          have e3 : Dv K (OffS [p] (upd (upd (upd H3 t1 (.lst [.int 7])) t2 (.tup [.int 7])) t3 (.dK []))) (.ref t3) (.dict []) := new_dic ht3 hid2
          refine ⟨by show 9 ≤ sizeLine; decide, fun O hO => ?_⟩
          have s4 := Same.new (o := .lst [.non, .bl true, .int (-1), .int 10000, .int (10 ^ 19), .str "7", .ref t1, .ref t2, .ref t3]) hO
          have s04 := ((s1.trans s2).trans s3).trans s4
          refine ⟨O, _, numOdds, rfl, Ne.symm ((P3.keep ((s1.trans s2).trans s3)).ne hO), upd_same, by simp, by show 9 ≤ 10; decide, .cons .non (.cons (.bl _) (.cons (.int _) (.cons (.int _) (.cons (.int _) (.cons (.str _) (.cons (e1.keep ((s2.trans s3).trans s4).off) (.cons (e2.keep (s3.trans s4).off) (.cons (e3.keep s4.off) .nil)))))))), fun e he => ⟨(numOdds_ok e he).2, fun _ => (numOdds_ok e he).1, fun h1 => by omega⟩, But.of s04, (P3.keep s04).mono (by omega)⟩
        · have h1 : wy = 1 := by
            rcases hwy with h0 | h0
            · rw [h0] at h; exact absurd h (by decide)
            · exact h0
          refine ⟨_, rfl, p, c, _, [p], rfl, P3, by omega, pS, hid, fun v dv H4 hv hz hf d4 => ?_⟩
          refine ⟨by show 1 ≤ sizeLine; decide, fun O hO => ?_⟩
          have s4 := Same.new (o := .lst [v]) hO
          exact ⟨O, [v], [dv], rfl, Ne.symm (d4.pen.ne hO), upd_same, by simp, by show 1 ≤ 10; decide, .cons (hv.keep s4.off) .nil, fun e he => by rw [List.mem_singleton.mp he]; exact ⟨hz, fun h0 => by omega, fun _ => hf⟩, d4.but.trans (But.of s4), (d4.pen.keep s4).mono (by omega)⟩
      rintro σ' H4 ⟨O, os, ods, rfl, hOp, gO, hone, hol, hos, hods, b34, P4⟩
      have gG4 := b34 _ _ hGp gG
      have hx4 := hx.keep (b34.off pS)
      clear gG hx b34 P3
      -- bad
      refine ⟨fun σ' H' => ∃ (B : Addr) (y0 y1 : V) (e0 e1 : PyData), σ' = [some (.ref a), some (.ref p), some (.int (0 + (i : Int))), some (.int wy), some (.ref G), some (.ref O), some (.ref B), v7, v8, v9, v10, none, v12, none, v14] ∧ B ≠ p ∧ c ≠ B ∧ H' B = some (.lst [y0, y1]) ∧ Dv K (OffS [B, p] H') x d ∧ Dv K (OffS [B, p] H') y0 e0 ∧ Dv K (OffS [B, p] H') y1 e1 ∧ (Sz 1100 1 e0 ∧ (wy = 0 → dBtw e0 0 9999 = false) ∧ (wy = 1 → dTxt e0 0 40 = false)) ∧ (Sz 1100 1 e1 ∧ dBtw e1 1 8 = false) ∧ But p H4 H' ∧ Pen H' p c (200 * i + 130), ?_, ?_⟩
      · refine ⟨_, rfl, _, rfl, p, c, O, _, os, rfl, P4, SqL.of gO, hOp, hone, by omega, by omega, fun y0 H5 hy0 d5 => ?_⟩
        obtain ⟨e0, he0, hv0⟩ := hos.mem hy0
        have hv05 := hv0.keep (d5.off pS)
        refine ⟨_, rfl, _, rfl, _, _, rfl, rfl, ⟨by decide, by decide, by decide⟩, by show 7 ≤ sizeLine; decide, fun l2 hl2 => ?_⟩
        have s6 := Same.new (o := .lst [.int 0, .int 9, .int (-1), .non, .bl true, .str "8", .int (10 ^ 20)]) hl2
        refine ⟨p, c, l2, _, _, rfl, d5.pen.keep s6, SqL.of upd_same, Ne.symm (d5.pen.ne hl2), by simp, by show 7 ≤ 1000; decide, by omega, fun y1 H6 hy1 d6 => ?_⟩
        have al : DvAll K (OffS [p] H6) [.int 0, .int 9, .int (-1), .non, .bl true, .str "8", .int (10 ^ 20)] preOdds := .cons (.int _) (.cons (.int _) (.cons (.int _) (.cons .non (.cons (.bl _) (.cons (.str _) (.cons (.int _) .nil))))))
        obtain ⟨e1, he1, hv1⟩ := al.mem hy1
        refine ⟨by show 2 ≤ sizeLine; decide, fun B hB => ?_⟩
        have s7 := Same.new (o := .lst [y0, y1]) hB
        have sm := (off_more (S := [p]) hB).trans s7.off
        exact ⟨B, y0, y1, e0, e1, rfl, Ne.symm (d6.pen.ne hB), d6.pen.nec hB, upd_same, (((hx4.keep (d5.off pS)).keep s6.off).keep (d6.off pS)).keep sm, ((hv05.keep s6.off).keep (d6.off pS)).keep sm, hv1.keep sm, hods e0 he0, ⟨(preOdds_ok e1 he1).2, (preOdds_ok e1 he1).1⟩, (d5.but.trans (But.of s6)).trans (d6.but.trans (But.of s7)), (d6.pen.keep s7).mono (by omega)⟩
      rintro σ' H5 ⟨B, y0, y1, e0, e1, rfl, hBp, hcB, gB, hx5, hy0, hy1, hb0, hb1, b45, P5⟩
      have gG5 := b45 _ _ hGp gG4
      have pS2 : p ∈ [B, p] := List.mem_cons_of_mem _ pS
      clear gG4 hx4 b45 P4 hos gO
      -- unit
      refine ⟨fun σ' H' => σ' = [some (.ref a), some (.ref p), some (.int (0 + (i : Int))), some (.int wy), some (.ref G), some (.ref O), some (.ref B), some (.int 1), v8, v9, v10, none, v12, none, v14] ∧ H5 = H', ⟨rfl, rfl⟩, ?_⟩
      rintro σ' H6 ⟨rfl, rfl⟩
      -- for bit
      refine ⟨fun σ' H' => ∃ v8 : Option V, σ' = [some (.ref a), some (.ref p), some (.int (0 + (i : Int))), some (.int wy), some (.ref G), some (.ref O), some (.ref B), some (.int ((2 ^ g : Nat) : Int)), v8, v9, v10, none, v12, none, v14] ∧ H5 = H', ?_, ?_⟩
      · refine ⟨_, rfl, _, _, _, _, rfl, rfl, SqL.of gG5, rfl, _, rfl, by omega, by omega, ?_⟩
        rw [Int.toNat_natCast]
        refine for_range (lo := 0) (n := g) (fun j σ H' => ∃ v8 : Option V, σ = [some (.ref a), some (.ref p), some (.int (0 + (i : Int))), some (.int wy), some (.ref G), some (.ref O), some (.ref B), some (.int ((2 ^ j : Nat) : Int)), v8, v9, v10, none, v12, none, v14] ∧ H5 = H') ⟨_, rfl, rfl⟩ ?_ ?_
        · rintro j σ H' hj ⟨v8', rfl, rfl⟩
          refine ⟨_, rfl, _, _, rfl, rfl, .inr ⟨by decide, by decide⟩, ?_⟩
          refine ⟨some (.int (0 + (j : Int))), ?_, rfl⟩
          rw [Nat.pow_succ, Int.natCast_mul]; rfl
        · rintro σ H' ⟨v8', rfl, rfl⟩
          exact ⟨_, rfl, rfl⟩
      rintro σ' H6 ⟨v8', rfl, rfl⟩
      have hu2 : 2 ≤ 2 ^ g := by
        have := Nat.pow_le_pow_right (n := 2) (by omega) hg1
        omega
      have hu256 : 2 ^ g ≤ 256 := by
        have := Nat.pow_le_pow_right (n := 2) (by omega) hg8
        omega
      have hdv : 1 ≤ 256 / 2 ^ g := (Nat.one_le_div_iff (by omega)).mpr hu256
      have hdv2 : 256 / 2 ^ g ≤ 256 := Nat.div_le_self ..
      have ediv : (256 : Int) / ((2 ^ g : Nat) : Int) = ((256 / 2 ^ g : Nat) : Int) := by rw [Int.natCast_ediv]; rfl
      -- middle
      refine ⟨fun σ' H' => ∃ md : Int, σ' = [some (.ref a), some (.ref p), some (.int (0 + (i : Int))), some (.int wy), some (.ref G), some (.ref O), some (.ref B), some (.int ((2 ^ g : Nat) : Int)), v8', some (.int md), v10, none, v12, none, v14] ∧ 0 ≤ md ∧ md ≤ 255 ∧ md % (2 ^ g : Nat) ≠ 0 ∧ But p H5 H' ∧ Pen H' p c (200 * i + 140), ?_, ?_⟩
      · refine ⟨_, rfl, _, rfl, _, rfl, _, _, rfl, rfl, by show (0 : Int) < ((2 ^ g : Nat) : Int) ∧ _; exact ⟨by omega, by omega⟩, ?_⟩
        refine ⟨p, c, _, _, rfl, P5, by rw [ediv]; omega, by rw [ediv]; omega, by omega, fun tt H7 ht0 ht1 d7 => ?_⟩
        rw [ediv] at ht1
        obtain ⟨tt, rfl⟩ : ∃ k : Nat, tt = (k : Int) := ⟨tt.toNat, by omega⟩
        refine ⟨_, _, rfl, rfl, mul64 (by omega) (by omega), _, _, rfl, rfl, ?_⟩
        refine ⟨_, rfl, _, rfl, _, _, rfl, rfl, ?_⟩
        refine ⟨p, c, _, _, rfl, d7.pen, by omega, by omega, by omega, fun ss H8 hs0 hs1 d8 => ?_⟩
        obtain ⟨ss, rfl⟩ : ∃ k : Nat, ss = (k : Int) := ⟨ss.toNat, by omega⟩
        obtain ⟨m1, m2⟩ := mid_mod (g := g) (t := tt) (s := ss) (by omega) (by omega)
        refine ⟨_, _, rfl, rfl, ((2 ^ g * tt + 1 + ss : Nat) : Int), ?_, by omega, by omega, m1, d7.but.trans d8.but, d8.pen.mono (by omega)⟩
        have ee : ((2 ^ g : Nat) : Int) * (tt : Int) + 1 + (ss : Int) = ((2 ^ g * tt + 1 + ss : Nat) : Int) := by rw [Int.natCast_add, Int.natCast_add, Int.natCast_mul]; rfl
        rw [← ee]; rfl
      rintro σ' H6 ⟨md, rfl, md0, md1, mdm, b56, P6⟩
      have gG6 := b56 _ _ hGp gG5
      have gB6 := b56 _ _ hBp gB
      have o56 := b56.off pS2
      have hx6 := hx5.keep o56
      have hy06 := hy0.keep o56
      have hy16 := hy1.keep o56
      clear gG5 gB hx5 hy0 hy1 b56 o56 P5
      -- bad.append
      refine ⟨fun σ' H' => ∃ (y2 : V) (e2 : PyData), σ' = [some (.ref a), some (.ref p), some (.int (0 + (i : Int))), some (.int wy), some (.ref G), some (.ref O), some (.ref B), some (.int ((2 ^ g : Nat) : Int)), v8', some (.int md), v10, none, v12, none, v14] ∧ H' G = some (.lst [x, .int (g : Nat), .int 0]) ∧ H' B = some (.lst [y0, y1, y2]) ∧ Dv K (OffS [B, p] H') x d ∧ Dv K (OffS [B, p] H') y0 e0 ∧ Dv K (OffS [B, p] H') y1 e1 ∧ Dv K (OffS [B, p] H') y2 e2 ∧ okPre (.int (g : Nat)) e2 = false ∧ Sz 1100 1 e2 ∧ Pen H' p c (200 * i + 150), ?_, ?_⟩
      · refine ⟨_, rfl, .inl ⟨rfl, _, SqL.of gB6⟩, _, rfl, _, rfl, _, rfl, _, _, rfl, rfl, ⟨by decide, by decide⟩, _, _, rfl, rfl, ⟨by decide, by decide, by decide⟩, _, rfl, _, rfl, _, rfl, by show 12 ≤ sizeLine; decide, fun l hl => ?_⟩
        have s7 := Same.new (o := .lst [.int (-1), .int 256, .int 255, .int 1, .int (((2 ^ g : Nat) : Int) / 2), .non, .bl false, .str "0", .int (10 ^ 9), .int md, .int md, .int md]) hl
        refine ⟨p, c, l, _, _, rfl, P6.keep s7, SqL.of upd_same, Ne.symm (P6.ne hl), by simp, by show 12 ≤ 1000; decide, by omega, fun y2 H8 hy2 d8 => ?_⟩
        have al : ∀ HH, DvAll K HH [.int (-1), .int 256, .int 255, .int 1, .int (((2 ^ g : Nat) : Int) / 2), .non, .bl false, .str "0", .int (10 ^ 9), .int md, .int md, .int md] (markOdds g md) := fun _ => .cons (.int _) (.cons (.int _) (.cons (.int _) (.cons (.int _) (.cons (.int _) (.cons .non (.cons (.bl _) (.cons (.str _) (.cons (.int _) (.cons (.int _) (.cons (.int _) (.cons (.int _) .nil)))))))))))
        obtain ⟨e2, he2, hv2⟩ := (al (OffS [B, p] (upd H8 B (.lst ([y0, y1] ++ [y2]))))).mem hy2
        obtain ⟨hb2, hz2⟩ := markOdds_ok hg1 hg8 md0 md1 mdm e2 he2
        have gB8 := d8.but _ _ hBp (s7 _ _ gB6)
        have gG8 := d8.but _ _ hGp (s7 _ _ gG6)
        have o68 := ((s7.off (S := [B, p])).trans (d8.off pS2)).trans (off_hid (o := .lst ([y0, y1] ++ [y2])) (List.mem_cons_self ..))
        have hGB : G ≠ B := fun z => by rw [z, gB6] at gG6; cases gG6
        refine ⟨B, _, _, rfl, rfl, gB8, by show 2 < sizeLine; decide, ?_⟩
        exact ⟨y2, e2, rfl, by rw [upd_ne hGB]; exact gG8, upd_same, hx6.keep o68, hy06.keep o68, hy16.keep o68, hv2, hb2, hz2, (d8.pen.upd (Ne.symm hBp) hcB).mono (by omega)⟩
      rintro σ' H7 ⟨y2, e2, rfl, gG7, gB7, hx7, hy07, hy17, hy27, hb2, hz2, P7⟩
      -- wrong
      refine ⟨fun σ' H' => ∃ (W : Addr) (w0 w1 w2 : Bool), σ' = [some (.ref a), some (.ref p), some (.int (0 + (i : Int))), some (.int wy), some (.ref G), some (.ref O), some (.ref B), some (.int ((2 ^ g : Nat) : Int)), v8', some (.int md), some (.ref W), none, v12, none, v14] ∧ W ≠ p ∧ c ≠ W ∧ W ≠ G ∧ W ≠ B ∧ H7 W = none ∧ H' W = some (.lst [.bl w0, .bl w1, .bl w2]) ∧ But p H7 H' ∧ Pen H' p c (200 * i + 160), ?_, ?_⟩
      · refine ⟨_, rfl, G, rfl, ⟨_, SqL.of gG7⟩, fun W hW => ?_⟩
        refine lc_gen (walk_list (xs := [x, .int (g : Nat), .int 0])) (fun j ys H' => Drew p c H7 H' (200 * i + 150 + j) ∧ ∃ bs : List Bool, ys = bs.map V.bl ∧ bs.length = j) (by show 3 ≤ 10000000; decide) ?_ (fun j ys H' h => SqL.of (h.1.but _ _ hGp gG7)) ?_ ?_
        · exact ⟨⟨(P7.new hW).mono (by omega), But.new hW⟩, [], rfl, rfl⟩
        · rintro j ys z H' H'' Q' Z hj hyl gW ⟨d4, bs, rfl, hbl⟩ ⟨rfl, hz⟩ q'
          have hj3 : j < 3 := hj
          refine ⟨rfl, yesI ?_⟩
          refine ⟨_, rfl, p, c, _, 2, rfl, d4.pen, by decide, by decide, by omega, fun rr H8 h0 h1 d8 => ⟨rfl, ?_⟩⟩
          have nWp : p ≠ W := P7.ne hW
          have nWc := P7.nec hW
          have gW8 := d8.but _ _ (Ne.symm nWp) gW
          refine q' _ H8 gW8 ⟨⟨(d8.pen.upd nWp nWc).mono (by omega), (d4.but.trans d8.but).put hW⟩, bs ++ [_], by rw [List.map_append]; rfl, by rw [List.length_append, hbl]; rfl⟩
        · rintro ys H' hyl gW ⟨d4, bs, rfl, hbl⟩
          match bs, hbl with
          | [w0, w1, w2], _ =>
            have hWG : W ≠ G := fun z => by rw [z, gG7] at hW; cases hW
            have hWB : W ≠ B := fun z => by rw [z, gB7] at hW; cases hW
            exact ⟨W, w0, w1, w2, rfl, Ne.symm (P7.ne hW), P7.nec hW, hWG, hWB, hW, gW, d4.but, d4.pen.mono (by show 200 * i + 150 + 3 ≤ 200 * i + 160; omega)⟩
      rintro σ' H8 ⟨W, w0, w1, w2, rfl, hWp, hcW, hWG, hWB, hW7, gW, b78, P8⟩
      have gG8 := b78 _ _ hGp gG7
      have gB8 := b78 _ _ hBp gB7
      have pS3 : p ∈ [W, B, p] := List.mem_cons_of_mem _ pS2
      have o78 := (off_more (S := [B, p]) hW7).trans (b78.off pS3)
      have hx8 := hx7.keep o78
      have hy08 := hy07.keep o78
      have hy18 := hy17.keep o78
      have hy28 := hy27.keep o78
      clear hx7 hy07 hy17 hy27 gG7 gB7 b78 P7 o78
      -- one at least is wrong
      refine ⟨fun σ' H' => ∃ w0 w1 w2 : Bool, (w0 || w1 || w2) = true ∧ σ' = [some (.ref a), some (.ref p), some (.int (0 + (i : Int))), some (.int wy), some (.ref G), some (.ref O), some (.ref B), some (.int ((2 ^ g : Nat) : Int)), v8', some (.int md), some (.ref W), none, v12, none, v14] ∧ H' W = some (.lst [.bl w0, .bl w1, .bl w2]) ∧ H' G = some (.lst [x, .int (g : Nat), .int 0]) ∧ H' B = some (.lst [y0, y1, y2]) ∧ Dv K (OffS [W, B, p] H') x d ∧ Dv K (OffS [W, B, p] H') y0 e0 ∧ Dv K (OffS [W, B, p] H') y1 e1 ∧ Dv K (OffS [W, B, p] H') y2 e2 ∧ Pen H' p c (200 * i + 170), ?_, ?_⟩
      · refine ⟨_, rfl, W, _, rfl, .inl (SqL.of gW), rfl, rfl, _, rfl, ifb (fun h => ?_) (fun h => ?_)⟩
        · refine ⟨_, rfl, _, rfl, p, c, _, 3, rfl, P8, by decide, by decide, by omega, fun k H9 hk0 hk1 d9 => ?_⟩
          have gW9 := d9.but _ _ hWp gW
          have o9 := (d9.off pS3).trans (off_hid (o := .lst ([V.bl w0, .bl w1, .bl w2].set k.toNat (.bl true))) (List.mem_cons_self ..))
          refine ⟨W, _, k, k.toNat, rfl, rfl, gW9, ?_, ?_⟩
          · have : ixN 3 ((k.toNat : Nat) : Int) = some k.toNat := ixN_n (by omega)
            rw [Int.toNat_of_nonneg hk0] at this
            exact this
          have eG : upd H9 W (.lst ([V.bl w0, .bl w1, .bl w2].set k.toNat (.bl true))) G = some (.lst [x, .int (g : Nat), .int 0]) := by rw [upd_ne (Ne.symm hWG)]; exact d9.but _ _ hGp gG8
          have eB : upd H9 W (.lst ([V.bl w0, .bl w1, .bl w2].set k.toNat (.bl true))) B = some (.lst [y0, y1, y2]) := by rw [upd_ne (Ne.symm hWB)]; exact d9.but _ _ hBp gB8
          have eP : Pen (upd H9 W (.lst ([V.bl w0, .bl w1, .bl w2].set k.toNat (.bl true)))) p c (200 * i + 170) := (d9.pen.upd (Ne.symm hWp) hcW).mono (by omega)
          rcases (show k = 0 ∨ k = 1 ∨ k = 2 by omega) with rfl | rfl | rfl
          · exact ⟨true, w1, w2, rfl, rfl, upd_same, eG, eB, hx8.keep o9, hy08.keep o9, hy18.keep o9, hy28.keep o9, eP⟩
          · exact ⟨w0, true, w2, by cases w0 <;> rfl, rfl, upd_same, eG, eB, hx8.keep o9, hy08.keep o9, hy18.keep o9, hy28.keep o9, eP⟩
          · exact ⟨w0, w1, true, by cases w0 <;> cases w1 <;> rfl, rfl, upd_same, eG, eB, hx8.keep o9, hy08.keep o9, hy18.keep o9, hy28.keep o9, eP⟩
        · refine ⟨w0, w1, w2, ?_, rfl, gW, gG8, gB8, hx8, hy08, hy18, hy28, P8.mono (by omega)⟩
          revert h
          cases w0 <;> cases w1 <;> cases w2 <;> intro h <;> first | rfl | exact absurd h (by decide)
      clear gW gG8 gB8 hx8 hy08 hy18 hy28 P8
      rintro σ' H9 ⟨w0, w1, w2, hw, rfl, gW, gG, gB, hx9, hy0, hy1, hy2, P9⟩
      have hidW : ∀ {v : V} {e : PyData} {H' : Hp}, Dv K (OffS [W, B, p] H') v e → Dv K H' v e := fun h => h.on
      refine ⟨fun σ' H' => ∃ (S : Addr) (z0 z1 z2 : V) (f0 f1 f2 : PyData), σ' = [some (.ref a), some (.ref p), some (.int (0 + (i : Int))), some (.int wy), some (.ref G), some (.ref O), some (.ref B), some (.int ((2 ^ g : Nat) : Int)), v8', some (.int md), some (.ref W), none, some (.ref S), none, v14] ∧ H' S = some (.lst [z0, z1, z2]) ∧ Dv K H' z0 f0 ∧ Dv K H' z1 f1 ∧ Dv K H' z2 f2 ∧ (Sz 1100 1 f0 ∧ Sz 1100 1 f1 ∧ Sz 1100 1 f2) ∧ okOct wy f0 f1 f2 = false ∧ Pen H' p c (200 * i + 170), ?_, ?_⟩
      · refine ⟨3, rfl, by decide, by decide, fun D hD => ?_⟩
        refine lc_map walk_range (fun j => [if w0 = true then y0 else x, if w1 = true then y1 else .int (g : Nat), if w2 = true then y2 else .int 0].getD j .non) (by decide) hD (fun _ _ => True.intro) ?_ ?_
        · rintro j x' H' H'' Q' Z hj s' ⟨rfl, rfl⟩ q'
          have qq := q' _ (Same.refl _)
          refine ⟨rfl, yesI ?_⟩
          rcases (show j = 0 ∨ j = 1 ∨ j = 2 by omega) with rfl | rfl | rfl
          · cases w0 with
            | true => exact ⟨_, rfl, _, rfl, _, _, _, _, rfl, rfl, SqL.of (s' _ _ gW), rfl, _, rfl, ifT rfl ⟨_, rfl, _, rfl, _, _, _, _, rfl, rfl, SqL.of (s' _ _ gB), rfl, qq⟩⟩
            | false => exact ⟨_, rfl, _, rfl, _, _, _, _, rfl, rfl, SqL.of (s' _ _ gW), rfl, _, rfl, ifF rfl ⟨_, rfl, _, rfl, _, _, _, _, rfl, rfl, SqL.of (s' _ _ gG), rfl, qq⟩⟩
          · cases w1 with
            | true => exact ⟨_, rfl, _, rfl, _, _, _, _, rfl, rfl, SqL.of (s' _ _ gW), rfl, _, rfl, ifT rfl ⟨_, rfl, _, rfl, _, _, _, _, rfl, rfl, SqL.of (s' _ _ gB), rfl, qq⟩⟩
            | false => exact ⟨_, rfl, _, rfl, _, _, _, _, rfl, rfl, SqL.of (s' _ _ gW), rfl, _, rfl, ifF rfl ⟨_, rfl, _, rfl, _, _, _, _, rfl, rfl, SqL.of (s' _ _ gG), rfl, qq⟩⟩
          · cases w2 with
            | true => exact ⟨_, rfl, _, rfl, _, _, _, _, rfl, rfl, SqL.of (s' _ _ gW), rfl, _, rfl, ifT rfl ⟨_, rfl, _, rfl, _, _, _, _, rfl, rfl, SqL.of (s' _ _ gB), rfl, qq⟩⟩
            | false => exact ⟨_, rfl, _, rfl, _, _, _, _, rfl, rfl, SqL.of (s' _ _ gW), rfl, _, rfl, ifF rfl ⟨_, rfl, _, rfl, _, _, _, _, rfl, rfl, SqL.of (s' _ _ gG), rfl, qq⟩⟩
        intro H2' s2 hC2
        have k0 := hidW (hx9.keep s2.off)
        have k1 := hidW (hy0.keep s2.off)
        have k2 := hidW (hy1.keep s2.off)
        have k3 := hidW (hy2.keep s2.off)
        have zg : Sz 1100 1 (.int (g : Nat)) := (sz_small (by omega)).mono (by decide) (by decide)
        have z00 : Sz 1100 1 (.int 0) := (sz_int (by decide +kernel)).mono (by decide) (by decide)
        refine ⟨D, if w0 = true then y0 else x, if w1 = true then y1 else .int (g : Nat), if w2 = true then y2 else .int 0, if w0 = true then e0 else d, if w1 = true then e1 else .int (g : Nat), if w2 = true then e2 else .int 0, rfl, hC2, ?_, ?_, ?_, ⟨?_, ?_, ?_⟩, ?_, P9.keep s2⟩
        · cases w0 <;> assumption
        · cases w1 with
          | true => exact k2
          | false => exact .int _
        · cases w2 with
          | true => exact k3
          | false => exact .int _
        · cases w0 with
          | true => exact hb0.1
          | false => exact hxz
        · cases w1 with
          | true => exact hb1.1
          | false => exact zg
        · cases w2 with
          | true => exact hz2
          | false => exact z00
        · cases w0 with
          | true => exact oct_no0 hwy hb0.2.1 hb0.2.2
          | false =>
            cases w1 with
            | true => exact oct_no hwy (pre_no1 hb1.2)
            | false =>
              cases w2 with
              | true => exact oct_no hwy hb2
              | false => cases hw
      clear hx9 hy0 hy1 hy2 gW gG gB P9
      rintro σ' H10 ⟨S, z0, z1, z2, f0, f1, f2, rfl, gS, d0, d1, d2, ⟨q0, q1, q2⟩, hno, P10⟩
      have hd3 : ∀ H', Same H10 H' → Dv K H' (.ref S) (.list [f0, f1, f2]) := fun H' s => .lst (SqL.of (s _ _ gS)) (.cons (d0.keep s) (.cons (d1.keep s) (.cons (d2.keep s) .nil)))
      have zA : Sz 5000 2 (.list [f0, f1, f2]) := by
        refine sz_lst' (k := 1) ?_ ?_ ?_
        · rw [okVAll, okVAll, okVAll, okVAll, q0.ok, q1.ok, q2.ok]; rfl
        · have := q0.w; have := q1.w; have := q2.w
          rw [wVAll, wVAll, wVAll, wVAll]; omega
        · refine depthAll_le fun e he => ?_
          simp only [List.mem_cons, List.not_mem_nil, or_false] at he
          rcases he with rfl | rfl | rfl
          · exact q0.dp
          · exact q1.dp
          · exact q2.dp
      refine ⟨_, rfl, .ref S, .list [f0, f1, f2], rfl, hd3 _ (Same.refl _), zA.ok, Nat.le_trans zA.dp (by decide), Nat.le_trans zA.w (by decide), ?_⟩
      refine ⟨_, rfl, _, rfl, _, _, _, _, rfl, rfl, SqL.of gS, rfl, _, rfl, _, _, _, _, rfl, rfl, SqL.of gS, rfl, _, rfl, _, _, _, _, rfl, rfl, SqL.of gS, rfl, ?_⟩
      refine ⟨wy, z0, z1, z2, f0, f1, f2, rfl, hwy, d0, sz_lim q0, d1, d2, hno, fun H11 s11 => ⟨_, rfl, ifF rfl ?_⟩⟩
      refine ⟨_, rfl, .ref S, .list [f0, f1, f2], rfl, hd3 _ s11, zA.ok, Nat.le_trans zA.dp (by decide), Nat.le_trans zA.w (by decide), ?_⟩
      refine ⟨_, rfl, rfl, _, rfl, ifF (by rw [decide_eq_true rfl]; rfl) ?_⟩
      exact ⟨_, _, _, _, _, _, _, _, _, _, _, rfl, (P10.keep s11).mono (by omega)⟩
    · rintro σ H' ⟨v2, v3, v4, v5, v6, v7, v8, v9, v10, v12, v14, rfl, P2⟩
      exact ⟨_, rfl, p, c, _, rfl, P2, by omega, q⟩

end
theorem all_mk {l : PySem.W.OpenLaw} {w : World} {K : PySem.W.Frag} {h : Heap} {mg : Str → Option Value} {fa : Addr} (X : K.In h) (G : h.Ns mainGlobals mg) (hfa : mg "law" = some (.ref fa))
    {C0 : Addr} (cC0 : PySem.W.nsIn K mainGlobals "FieldError" = some (some (.ref C0)))
    (rd0 : PySem.W.readsIn K C0 (.type "type") = true) (ga0 : PySem.W.specialIn K (.ref C0) "__getattribute__" = some (some (.builtin "type.__getattribute__"))) (in0 : PySem.W.findCls K (.ref C0) (.type "type") "__init__" = some (.val (.builtin "ValueError.__init__")))
    (rb0 : PySem.W.subIn K (.ref C0) (.type "BaseException") = some true) (rt0 : PySem.W.typeIn K (.ref C0) = some (.type "type")) (rc0 : PySem.W.hasDictIn K C0 = true)
    {C1 : Addr} (cC1 : PySem.W.nsIn K mainGlobals "NoSetting" = some (some (.ref C1)))
    (kC1 : PySem.W.keepIn K (.ref C1) = true) (eC1 : PySem.W.subIn K (.ref C1) (.type "BaseException") = some true) (tC1 : PySem.W.typeIn K (.ref C1) = some (.type "type")) (uC1 : PySem.W.subIn K (.ref C1) (.ref C0) = some true)
    (xC1 : PySem.W.excIn K C1 [.type "ValueError", .type "Exception", .type "BaseException", .type "object"] "ValueError.__new__" = true)
    {C2 : Addr} (cC2 : PySem.W.nsIn K mainGlobals "NoField" = some (some (.ref C2)))
    (kC2 : PySem.W.keepIn K (.ref C2) = true) (eC2 : PySem.W.subIn K (.ref C2) (.type "BaseException") = some true) (tC2 : PySem.W.typeIn K (.ref C2) = some (.type "type")) (uC2 : PySem.W.subIn K (.ref C2) (.ref C0) = some true)
    (xC2 : PySem.W.excIn K C2 [.type "ValueError", .type "Exception", .type "BaseException", .type "object"] "ValueError.__new__" = true)
    {C3 : Addr} (cC3 : PySem.W.nsIn K mainGlobals "NoValue" = some (some (.ref C3)))
    (kC3 : PySem.W.keepIn K (.ref C3) = true) (eC3 : PySem.W.subIn K (.ref C3) (.type "BaseException") = some true) (tC3 : PySem.W.typeIn K (.ref C3) = some (.type "type")) (uC3 : PySem.W.subIn K (.ref C3) (.ref C0) = some true)
    (xC3 : PySem.W.excIn K C3 [.type "ValueError", .type "Exception", .type "BaseException", .type "object"] "ValueError.__new__" = true)
    {C4 : Addr} (cC4 : PySem.W.nsIn K mainGlobals "NoNumber" = some (some (.ref C4)))
    (kC4 : PySem.W.keepIn K (.ref C4) = true) (eC4 : PySem.W.subIn K (.ref C4) (.type "BaseException") = some true) (tC4 : PySem.W.typeIn K (.ref C4) = some (.type "type")) (uC4 : PySem.W.subIn K (.ref C4) (.ref C0) = some true)
    (xC4 : PySem.W.excIn K C4 [.type "ValueError", .type "Exception", .type "BaseException", .type "object"] "ValueError.__new__" = true)
    {C5 : Addr} (cC5 : PySem.W.nsIn K mainGlobals "NoStream" = some (some (.ref C5)))
    (kC5 : PySem.W.keepIn K (.ref C5) = true) (eC5 : PySem.W.subIn K (.ref C5) (.type "BaseException") = some true) (tC5 : PySem.W.typeIn K (.ref C5) = some (.type "type")) (uC5 : PySem.W.subIn K (.ref C5) (.ref C0) = some true)
    (xC5 : PySem.W.excIn K C5 [.type "ValueError", .type "Exception", .type "BaseException", .type "object"] "ValueError.__new__" = true)
    {C6 : Addr} (cC6 : PySem.W.nsIn K mainGlobals "NoOctetList" = some (some (.ref C6)))
    (kC6 : PySem.W.keepIn K (.ref C6) = true) (eC6 : PySem.W.subIn K (.ref C6) (.type "BaseException") = some true) (tC6 : PySem.W.typeIn K (.ref C6) = some (.type "type")) (uC6 : PySem.W.subIn K (.ref C6) (.ref C0) = some true)
    (xC6 : PySem.W.excIn K C6 [.type "ValueError", .type "Exception", .type "BaseException", .type "object"] "ValueError.__new__" = true)
    {C7 : Addr} (cC7 : PySem.W.nsIn K mainGlobals "NoLog" = some (some (.ref C7)))
    (kC7 : PySem.W.keepIn K (.ref C7) = true) (eC7 : PySem.W.subIn K (.ref C7) (.type "BaseException") = some true) (tC7 : PySem.W.typeIn K (.ref C7) = some (.type "type")) (uC7 : PySem.W.subIn K (.ref C7) (.ref C0) = some true)
    (xC7 : PySem.W.excIn K C7 [.type "ValueError", .type "Exception", .type "BaseException", .type "object"] "ValueError.__new__" = true)
    {C8 : Addr} (cC8 : PySem.W.nsIn K mainGlobals "Held" = some (some (.ref C8)))
    (kC8 : PySem.W.keepIn K (.ref C8) = true) (eC8 : PySem.W.subIn K (.ref C8) (.type "BaseException") = some true) (tC8 : PySem.W.typeIn K (.ref C8) = some (.type "type")) (uC8 : PySem.W.subIn K (.ref C8) (.ref C0) = some true)
    (xC8 : PySem.W.excIn K C8 [.type "ValueError", .type "Exception", .type "BaseException", .type "object"] "ValueError.__new__" = true)
    {C9 : Addr} (cC9 : PySem.W.nsIn K mainGlobals "TooGreat" = some (some (.ref C9)))
    (kC9 : PySem.W.keepIn K (.ref C9) = true) (eC9 : PySem.W.subIn K (.ref C9) (.type "BaseException") = some true) (tC9 : PySem.W.typeIn K (.ref C9) = some (.type "type")) (uC9 : PySem.W.subIn K (.ref C9) (.ref C0) = some true)
    (xC9 : PySem.W.excIn K C9 [.type "ValueError", .type "Exception", .type "BaseException", .type "object"] "ValueError.__new__" = true)
    {C10 : Addr} (cC10 : PySem.W.nsIn K mainGlobals "TooManyStates" = some (some (.ref C10)))
    (kC10 : PySem.W.keepIn K (.ref C10) = true) (eC10 : PySem.W.subIn K (.ref C10) (.type "BaseException") = some true) (tC10 : PySem.W.typeIn K (.ref C10) = some (.type "type")) (uC10 : PySem.W.subIn K (.ref C10) (.ref C0) = some true)
    (xC10 : PySem.W.excIn K C10 [.type "ValueError", .type "Exception", .type "BaseException", .type "object"] "ValueError.__new__" = true)
    {C11 : Addr} (cC11 : PySem.W.nsIn K mainGlobals "NoOctets" = some (some (.ref C11)))
    (kC11 : PySem.W.keepIn K (.ref C11) = true) (eC11 : PySem.W.subIn K (.ref C11) (.type "BaseException") = some true) (tC11 : PySem.W.typeIn K (.ref C11) = some (.type "type")) (uC11 : PySem.W.subIn K (.ref C11) (.ref C0) = some true)
    {nm11 q11 : Str} {N11 : Addr} {bs11 bm11 : List Value} {sn11 : List Str} {sub11 : List Value} {ab11 : Bool} {col11 : Option Bool} {dd11 : Option Addr} {m011 m111 m211 m311 m511 : Option Value}
    (xL11 : K.lookup C11 = some (excClassObj nm11 q11 C11 N11 bs11 bm11 true sn11 sub11 ab11 col11 dd11 m011 m111 m211 m311 m511 "ValueError.__new__")) (rv11 : PySem.HandSPX.refsVE bm11 = true)
    (sa11 : PySem.W.findIn K (.ref C11) "__setattr__" = some (some (.builtin "object.__setattr__"))) (nb11 : PySem.W.findIn K (.ref C11) "place" = some none)
    {C12 : Addr} (cC12 : PySem.W.nsIn K mainGlobals "BadTable" = some (some (.ref C12)))
    (kC12 : PySem.W.keepIn K (.ref C12) = true) (eC12 : PySem.W.subIn K (.ref C12) (.type "BaseException") = some true) (tC12 : PySem.W.typeIn K (.ref C12) = some (.type "type")) (uC12 : PySem.W.subIn K (.ref C12) (.ref C0) = some true)
    {nm12 q12 : Str} {N12 : Addr} {bs12 bm12 : List Value} {sn12 : List Str} {sub12 : List Value} {ab12 : Bool} {col12 : Option Bool} {dd12 : Option Addr} {m012 m112 m212 m312 m512 : Option Value}
    (xL12 : K.lookup C12 = some (excClassObj nm12 q12 C12 N12 bs12 bm12 true sn12 sub12 ab12 col12 dd12 m012 m112 m212 m312 m512 "ValueError.__new__")) (rv12 : PySem.HandSPX.refsVE bm12 = true)
    (sa12 : PySem.W.findIn K (.ref C12) "__setattr__" = some (some (.builtin "object.__setattr__"))) (nb12 : PySem.W.findIn K (.ref C12) "number" = some none)
    {C13 : Addr} (cC13 : PySem.W.nsIn K mainGlobals "BadBlock" = some (some (.ref C13)))
    (kC13 : PySem.W.keepIn K (.ref C13) = true) (eC13 : PySem.W.subIn K (.ref C13) (.type "BaseException") = some true) (tC13 : PySem.W.typeIn K (.ref C13) = some (.type "type")) (uC13 : PySem.W.subIn K (.ref C13) (.ref C0) = some true)
    {nm13 q13 : Str} {N13 : Addr} {bs13 bm13 : List Value} {sn13 : List Str} {sub13 : List Value} {ab13 : Bool} {col13 : Option Bool} {dd13 : Option Addr} {m013 m113 m213 m313 m513 : Option Value}
    (xL13 : K.lookup C13 = some (excClassObj nm13 q13 C13 N13 bs13 bm13 true sn13 sub13 ab13 col13 dd13 m013 m113 m213 m313 m513 "ValueError.__new__")) (rv13 : PySem.HandSPX.refsVE bm13 = true)
    (sa13 : PySem.W.findIn K (.ref C13) "__setattr__" = some (some (.builtin "object.__setattr__"))) (nb13 : PySem.W.findIn K (.ref C13) "stream" = some none)
    {C14 : Addr} (cC14 : PySem.W.nsIn K mainGlobals "TooMany" = some (some (.ref C14)))
    (kC14 : PySem.W.keepIn K (.ref C14) = true) (eC14 : PySem.W.subIn K (.ref C14) (.type "BaseException") = some true) (tC14 : PySem.W.typeIn K (.ref C14) = some (.type "type")) (uC14 : PySem.W.subIn K (.ref C14) (.ref C0) = some true)
    {nm14 q14 : Str} {N14 : Addr} {bs14 bm14 : List Value} {sn14 : List Str} {sub14 : List Value} {ab14 : Bool} {col14 : Option Bool} {dd14 : Option Addr} {m014 m114 m214 m314 m514 : Option Value}
    (xL14 : K.lookup C14 = some (excClassObj nm14 q14 C14 N14 bs14 bm14 true sn14 sub14 ab14 col14 dd14 m014 m114 m214 m314 m514 "ValueError.__new__")) (rv14 : PySem.HandSPX.refsVE bm14 = true)
    (sa14 : PySem.W.findIn K (.ref C14) "__setattr__" = some (some (.builtin "object.__setattr__"))) (nb14 : PySem.W.findIn K (.ref C14) "stream" = some none)
    {C15 : Addr} (cC15 : PySem.W.nsIn K mainGlobals "BadAnswer" = some (some (.ref C15)))
    (kC15 : PySem.W.keepIn K (.ref C15) = true) (eC15 : PySem.W.subIn K (.ref C15) (.type "BaseException") = some true) (tC15 : PySem.W.typeIn K (.ref C15) = some (.type "type")) (uC15 : PySem.W.subIn K (.ref C15) (.ref C0) = some true)
    {nm15 q15 : Str} {N15 : Addr} {bs15 bm15 : List Value} {sn15 : List Str} {sub15 : List Value} {ab15 : Bool} {col15 : Option Bool} {dd15 : Option Addr} {m015 m115 m215 m315 m515 : Option Value}
    (xL15 : K.lookup C15 = some (excClassObj nm15 q15 C15 N15 bs15 bm15 true sn15 sub15 ab15 col15 dd15 m015 m115 m215 m315 m515 "ValueError.__new__")) (rv15 : PySem.HandSPX.refsVE bm15 = true)
    (sa15 : PySem.W.findIn K (.ref C15) "__setattr__" = some (some (.builtin "object.__setattr__"))) (nb15 : PySem.W.findIn K (.ref C15) "number" = some none)
    {C16 : Addr} (cC16 : PySem.W.nsIn K mainGlobals "BadOrder" = some (some (.ref C16)))
    (kC16 : PySem.W.keepIn K (.ref C16) = true) (eC16 : PySem.W.subIn K (.ref C16) (.type "BaseException") = some true) (tC16 : PySem.W.typeIn K (.ref C16) = some (.type "type")) (uC16 : PySem.W.subIn K (.ref C16) (.ref C0) = some true)
    {nm16 q16 : Str} {N16 : Addr} {bs16 bm16 : List Value} {sn16 : List Str} {sub16 : List Value} {ab16 : Bool} {col16 : Option Bool} {dd16 : Option Addr} {m016 m116 m216 m316 m516 : Option Value}
    (xL16 : K.lookup C16 = some (excClassObj nm16 q16 C16 N16 bs16 bm16 true sn16 sub16 ab16 col16 dd16 m016 m116 m216 m316 m516 "ValueError.__new__")) (rv16 : PySem.HandSPX.refsVE bm16 = true)
    (sa16 : PySem.W.findIn K (.ref C16) "__setattr__" = some (some (.builtin "object.__setattr__"))) (nb16 : PySem.W.findIn K (.ref C16) "number" = some none)
    {C17 : Addr} (cC17 : PySem.W.nsIn K mainGlobals "NoAnswer" = some (some (.ref C17)))
    (kC17 : PySem.W.keepIn K (.ref C17) = true) (eC17 : PySem.W.subIn K (.ref C17) (.type "BaseException") = some true) (tC17 : PySem.W.typeIn K (.ref C17) = some (.type "type")) (uC17 : PySem.W.subIn K (.ref C17) (.ref C0) = some true)
    {nm17 q17 : Str} {N17 : Addr} {bs17 bm17 : List Value} {sn17 : List Str} {sub17 : List Value} {ab17 : Bool} {col17 : Option Bool} {dd17 : Option Addr} {m017 m117 m217 m317 m517 : Option Value}
    (xL17 : K.lookup C17 = some (excClassObj nm17 q17 C17 N17 bs17 bm17 true sn17 sub17 ab17 col17 dd17 m017 m117 m217 m317 m517 "ValueError.__new__")) (rv17 : PySem.HandSPX.refsVE bm17 = true)
    (sa17 : PySem.W.findIn K (.ref C17) "__setattr__" = some (some (.builtin "object.__setattr__"))) (nb17 : PySem.W.findIn K (.ref C17) "event" = some none)
    (xn_ : PySem.W.specialIn K (.builtin "object.__class__") "__get__" = some (some (.builtin "getset_descriptor.__get__"))) (xt_ : PySem.W.takesIn K (.builtin "object.__class__") = some true)
    (xg15 : PySem.W.findIn K (.ref C15) "__getattribute__" = some (some (.builtin "BaseException.__getattribute__"))) (xk15 : PySem.W.findIn K (.ref C15) "__getattr__" = some none) (xs15 : PySem.W.subIn K (.ref C15) (.type "BaseException") = some true) (xd15 : PySem.W.hasDictIn K C15 = true) (xa15 : PySem.W.findIn K (.ref C15) "__class__" = some (some (.builtin "object.__class__"))) (xm15 : PySem.W.mroIn K C15 (.type "object") = some true) (xy15 : PySem.W.typeIn K (.ref C15) = some (.type "type")) (xz15 : PySem.W.subIn K (.type "NoneType") (.ref C15) = some false)
    (xg13 : PySem.W.findIn K (.ref C13) "__getattribute__" = some (some (.builtin "BaseException.__getattribute__"))) (xk13 : PySem.W.findIn K (.ref C13) "__getattr__" = some none) (xs13 : PySem.W.subIn K (.ref C13) (.type "BaseException") = some true) (xd13 : PySem.W.hasDictIn K C13 = true) (xa13 : PySem.W.findIn K (.ref C13) "__class__" = some (some (.builtin "object.__class__"))) (xm13 : PySem.W.mroIn K C13 (.type "object") = some true) (xy13 : PySem.W.typeIn K (.ref C13) = some (.type "type")) (xz13 : PySem.W.subIn K (.type "NoneType") (.ref C13) = some false)
    (xg16 : PySem.W.findIn K (.ref C16) "__getattribute__" = some (some (.builtin "BaseException.__getattribute__"))) (xk16 : PySem.W.findIn K (.ref C16) "__getattr__" = some none) (xs16 : PySem.W.subIn K (.ref C16) (.type "BaseException") = some true) (xd16 : PySem.W.hasDictIn K C16 = true) (xa16 : PySem.W.findIn K (.ref C16) "__class__" = some (some (.builtin "object.__class__"))) (xm16 : PySem.W.mroIn K C16 (.type "object") = some true) (xy16 : PySem.W.typeIn K (.ref C16) = some (.type "type")) (xz16 : PySem.W.subIn K (.type "NoneType") (.ref C16) = some false)
    (xg12 : PySem.W.findIn K (.ref C12) "__getattribute__" = some (some (.builtin "BaseException.__getattribute__"))) (xk12 : PySem.W.findIn K (.ref C12) "__getattr__" = some none) (xs12 : PySem.W.subIn K (.ref C12) (.type "BaseException") = some true) (xd12 : PySem.W.hasDictIn K C12 = true) (xa12 : PySem.W.findIn K (.ref C12) "__class__" = some (some (.builtin "object.__class__"))) (xm12 : PySem.W.mroIn K C12 (.type "object") = some true) (xy12 : PySem.W.typeIn K (.ref C12) = some (.type "type")) (xz12 : PySem.W.subIn K (.type "NoneType") (.ref C12) = some false)
    (xg8 : PySem.W.findIn K (.ref C8) "__getattribute__" = some (some (.builtin "BaseException.__getattribute__"))) (xk8 : PySem.W.findIn K (.ref C8) "__getattr__" = some none) (xs8 : PySem.W.subIn K (.ref C8) (.type "BaseException") = some true) (xd8 : PySem.W.hasDictIn K C8 = true) (xa8 : PySem.W.findIn K (.ref C8) "__class__" = some (some (.builtin "object.__class__"))) (xm8 : PySem.W.mroIn K C8 (.type "object") = some true) (xy8 : PySem.W.typeIn K (.ref C8) = some (.type "type")) (xz8 : PySem.W.subIn K (.type "NoneType") (.ref C8) = some false)
    (xg17 : PySem.W.findIn K (.ref C17) "__getattribute__" = some (some (.builtin "BaseException.__getattribute__"))) (xk17 : PySem.W.findIn K (.ref C17) "__getattr__" = some none) (xs17 : PySem.W.subIn K (.ref C17) (.type "BaseException") = some true) (xd17 : PySem.W.hasDictIn K C17 = true) (xa17 : PySem.W.findIn K (.ref C17) "__class__" = some (some (.builtin "object.__class__"))) (xm17 : PySem.W.mroIn K C17 (.type "object") = some true) (xy17 : PySem.W.typeIn K (.ref C17) = some (.type "type")) (xz17 : PySem.W.subIn K (.type "NoneType") (.ref C17) = some false)
    (xg2 : PySem.W.findIn K (.ref C2) "__getattribute__" = some (some (.builtin "BaseException.__getattribute__"))) (xk2 : PySem.W.findIn K (.ref C2) "__getattr__" = some none) (xs2 : PySem.W.subIn K (.ref C2) (.type "BaseException") = some true) (xd2 : PySem.W.hasDictIn K C2 = true) (xa2 : PySem.W.findIn K (.ref C2) "__class__" = some (some (.builtin "object.__class__"))) (xm2 : PySem.W.mroIn K C2 (.type "object") = some true) (xy2 : PySem.W.typeIn K (.ref C2) = some (.type "type")) (xz2 : PySem.W.subIn K (.type "NoneType") (.ref C2) = some false)
    (xg7 : PySem.W.findIn K (.ref C7) "__getattribute__" = some (some (.builtin "BaseException.__getattribute__"))) (xk7 : PySem.W.findIn K (.ref C7) "__getattr__" = some none) (xs7 : PySem.W.subIn K (.ref C7) (.type "BaseException") = some true) (xd7 : PySem.W.hasDictIn K C7 = true) (xa7 : PySem.W.findIn K (.ref C7) "__class__" = some (some (.builtin "object.__class__"))) (xm7 : PySem.W.mroIn K C7 (.type "object") = some true) (xy7 : PySem.W.typeIn K (.ref C7) = some (.type "type")) (xz7 : PySem.W.subIn K (.type "NoneType") (.ref C7) = some false)
    (xg4 : PySem.W.findIn K (.ref C4) "__getattribute__" = some (some (.builtin "BaseException.__getattribute__"))) (xk4 : PySem.W.findIn K (.ref C4) "__getattr__" = some none) (xs4 : PySem.W.subIn K (.ref C4) (.type "BaseException") = some true) (xd4 : PySem.W.hasDictIn K C4 = true) (xa4 : PySem.W.findIn K (.ref C4) "__class__" = some (some (.builtin "object.__class__"))) (xm4 : PySem.W.mroIn K C4 (.type "object") = some true) (xy4 : PySem.W.typeIn K (.ref C4) = some (.type "type")) (xz4 : PySem.W.subIn K (.type "NoneType") (.ref C4) = some false)
    (xg6 : PySem.W.findIn K (.ref C6) "__getattribute__" = some (some (.builtin "BaseException.__getattribute__"))) (xk6 : PySem.W.findIn K (.ref C6) "__getattr__" = some none) (xs6 : PySem.W.subIn K (.ref C6) (.type "BaseException") = some true) (xd6 : PySem.W.hasDictIn K C6 = true) (xa6 : PySem.W.findIn K (.ref C6) "__class__" = some (some (.builtin "object.__class__"))) (xm6 : PySem.W.mroIn K C6 (.type "object") = some true) (xy6 : PySem.W.typeIn K (.ref C6) = some (.type "type")) (xz6 : PySem.W.subIn K (.type "NoneType") (.ref C6) = some false)
    (xg11 : PySem.W.findIn K (.ref C11) "__getattribute__" = some (some (.builtin "BaseException.__getattribute__"))) (xk11 : PySem.W.findIn K (.ref C11) "__getattr__" = some none) (xs11 : PySem.W.subIn K (.ref C11) (.type "BaseException") = some true) (xd11 : PySem.W.hasDictIn K C11 = true) (xa11 : PySem.W.findIn K (.ref C11) "__class__" = some (some (.builtin "object.__class__"))) (xm11 : PySem.W.mroIn K C11 (.type "object") = some true) (xy11 : PySem.W.typeIn K (.ref C11) = some (.type "type")) (xz11 : PySem.W.subIn K (.type "NoneType") (.ref C11) = some false)
    (xg1 : PySem.W.findIn K (.ref C1) "__getattribute__" = some (some (.builtin "BaseException.__getattribute__"))) (xk1 : PySem.W.findIn K (.ref C1) "__getattr__" = some none) (xs1 : PySem.W.subIn K (.ref C1) (.type "BaseException") = some true) (xd1 : PySem.W.hasDictIn K C1 = true) (xa1 : PySem.W.findIn K (.ref C1) "__class__" = some (some (.builtin "object.__class__"))) (xm1 : PySem.W.mroIn K C1 (.type "object") = some true) (xy1 : PySem.W.typeIn K (.ref C1) = some (.type "type")) (xz1 : PySem.W.subIn K (.type "NoneType") (.ref C1) = some false)
    (xg5 : PySem.W.findIn K (.ref C5) "__getattribute__" = some (some (.builtin "BaseException.__getattribute__"))) (xk5 : PySem.W.findIn K (.ref C5) "__getattr__" = some none) (xs5 : PySem.W.subIn K (.ref C5) (.type "BaseException") = some true) (xd5 : PySem.W.hasDictIn K C5 = true) (xa5 : PySem.W.findIn K (.ref C5) "__class__" = some (some (.builtin "object.__class__"))) (xm5 : PySem.W.mroIn K C5 (.type "object") = some true) (xy5 : PySem.W.typeIn K (.ref C5) = some (.type "type")) (xz5 : PySem.W.subIn K (.type "NoneType") (.ref C5) = some false)
    (xg3 : PySem.W.findIn K (.ref C3) "__getattribute__" = some (some (.builtin "BaseException.__getattribute__"))) (xk3 : PySem.W.findIn K (.ref C3) "__getattr__" = some none) (xs3 : PySem.W.subIn K (.ref C3) (.type "BaseException") = some true) (xd3 : PySem.W.hasDictIn K C3 = true) (xa3 : PySem.W.findIn K (.ref C3) "__class__" = some (some (.builtin "object.__class__"))) (xm3 : PySem.W.mroIn K C3 (.type "object") = some true) (xy3 : PySem.W.typeIn K (.ref C3) = some (.type "type")) (xz3 : PySem.W.subIn K (.type "NoneType") (.ref C3) = some false)
    (xg9 : PySem.W.findIn K (.ref C9) "__getattribute__" = some (some (.builtin "BaseException.__getattribute__"))) (xk9 : PySem.W.findIn K (.ref C9) "__getattr__" = some none) (xs9 : PySem.W.subIn K (.ref C9) (.type "BaseException") = some true) (xd9 : PySem.W.hasDictIn K C9 = true) (xa9 : PySem.W.findIn K (.ref C9) "__class__" = some (some (.builtin "object.__class__"))) (xm9 : PySem.W.mroIn K C9 (.type "object") = some true) (xy9 : PySem.W.typeIn K (.ref C9) = some (.type "type")) (xz9 : PySem.W.subIn K (.type "NoneType") (.ref C9) = some false)
    (xg14 : PySem.W.findIn K (.ref C14) "__getattribute__" = some (some (.builtin "BaseException.__getattribute__"))) (xk14 : PySem.W.findIn K (.ref C14) "__getattr__" = some none) (xs14 : PySem.W.subIn K (.ref C14) (.type "BaseException") = some true) (xd14 : PySem.W.hasDictIn K C14 = true) (xa14 : PySem.W.findIn K (.ref C14) "__class__" = some (some (.builtin "object.__class__"))) (xm14 : PySem.W.mroIn K C14 (.type "object") = some true) (xy14 : PySem.W.typeIn K (.ref C14) = some (.type "type")) (xz14 : PySem.W.subIn K (.type "NoneType") (.ref C14) = some false)
    (xg10 : PySem.W.findIn K (.ref C10) "__getattribute__" = some (some (.builtin "BaseException.__getattribute__"))) (xk10 : PySem.W.findIn K (.ref C10) "__getattr__" = some none) (xs10 : PySem.W.subIn K (.ref C10) (.type "BaseException") = some true) (xd10 : PySem.W.hasDictIn K C10 = true) (xa10 : PySem.W.findIn K (.ref C10) "__class__" = some (some (.builtin "object.__class__"))) (xm10 : PySem.W.mroIn K C10 (.type "object") = some true) (xy10 : PySem.W.typeIn K (.ref C10) = some (.type "type")) (xz10 : PySem.W.subIn K (.type "NoneType") (.ref C10) = some false)
    (xu1_1 : PySem.W.subIn K (.ref C1) (.ref C1) = some true)
    (xu1_2 : PySem.W.subIn K (.ref C1) (.ref C2) = some false)
    (xu1_3 : PySem.W.subIn K (.ref C1) (.ref C3) = some false)
    (xu1_4 : PySem.W.subIn K (.ref C1) (.ref C4) = some false)
    (xu1_5 : PySem.W.subIn K (.ref C1) (.ref C5) = some false)
    (xu1_6 : PySem.W.subIn K (.ref C1) (.ref C6) = some false)
    (xu1_7 : PySem.W.subIn K (.ref C1) (.ref C7) = some false)
    (xu1_8 : PySem.W.subIn K (.ref C1) (.ref C8) = some false)
    (xu1_9 : PySem.W.subIn K (.ref C1) (.ref C9) = some false)
    (xu1_10 : PySem.W.subIn K (.ref C1) (.ref C10) = some false)
    (xu1_11 : PySem.W.subIn K (.ref C1) (.ref C11) = some false)
    (xu1_12 : PySem.W.subIn K (.ref C1) (.ref C12) = some false)
    (xu1_13 : PySem.W.subIn K (.ref C1) (.ref C13) = some false)
    (xu1_14 : PySem.W.subIn K (.ref C1) (.ref C14) = some false)
    (xu1_15 : PySem.W.subIn K (.ref C1) (.ref C15) = some false)
    (xu1_16 : PySem.W.subIn K (.ref C1) (.ref C16) = some false)
    (xu1_17 : PySem.W.subIn K (.ref C1) (.ref C17) = some false)
    (xu2_1 : PySem.W.subIn K (.ref C2) (.ref C1) = some false)
    (xu2_2 : PySem.W.subIn K (.ref C2) (.ref C2) = some true)
    (xu2_3 : PySem.W.subIn K (.ref C2) (.ref C3) = some false)
    (xu2_4 : PySem.W.subIn K (.ref C2) (.ref C4) = some false)
    (xu2_5 : PySem.W.subIn K (.ref C2) (.ref C5) = some false)
    (xu2_6 : PySem.W.subIn K (.ref C2) (.ref C6) = some false)
    (xu2_7 : PySem.W.subIn K (.ref C2) (.ref C7) = some false)
    (xu2_8 : PySem.W.subIn K (.ref C2) (.ref C8) = some false)
    (xu2_9 : PySem.W.subIn K (.ref C2) (.ref C9) = some false)
    (xu2_10 : PySem.W.subIn K (.ref C2) (.ref C10) = some false)
    (xu2_11 : PySem.W.subIn K (.ref C2) (.ref C11) = some false)
    (xu2_12 : PySem.W.subIn K (.ref C2) (.ref C12) = some false)
    (xu2_13 : PySem.W.subIn K (.ref C2) (.ref C13) = some false)
    (xu2_14 : PySem.W.subIn K (.ref C2) (.ref C14) = some false)
    (xu2_15 : PySem.W.subIn K (.ref C2) (.ref C15) = some false)
    (xu2_16 : PySem.W.subIn K (.ref C2) (.ref C16) = some false)
    (xu2_17 : PySem.W.subIn K (.ref C2) (.ref C17) = some false)
    (xu3_1 : PySem.W.subIn K (.ref C3) (.ref C1) = some false)
    (xu3_2 : PySem.W.subIn K (.ref C3) (.ref C2) = some false)
    (xu3_3 : PySem.W.subIn K (.ref C3) (.ref C3) = some true)
    (xu3_4 : PySem.W.subIn K (.ref C3) (.ref C4) = some false)
    (xu3_5 : PySem.W.subIn K (.ref C3) (.ref C5) = some false)
    (xu3_6 : PySem.W.subIn K (.ref C3) (.ref C6) = some false)
    (xu3_7 : PySem.W.subIn K (.ref C3) (.ref C7) = some false)
    (xu3_8 : PySem.W.subIn K (.ref C3) (.ref C8) = some false)
    (xu3_9 : PySem.W.subIn K (.ref C3) (.ref C9) = some false)
    (xu3_10 : PySem.W.subIn K (.ref C3) (.ref C10) = some false)
    (xu3_11 : PySem.W.subIn K (.ref C3) (.ref C11) = some false)
    (xu3_12 : PySem.W.subIn K (.ref C3) (.ref C12) = some false)
    (xu3_13 : PySem.W.subIn K (.ref C3) (.ref C13) = some false)
    (xu3_14 : PySem.W.subIn K (.ref C3) (.ref C14) = some false)
    (xu3_15 : PySem.W.subIn K (.ref C3) (.ref C15) = some false)
    (xu3_16 : PySem.W.subIn K (.ref C3) (.ref C16) = some false)
    (xu3_17 : PySem.W.subIn K (.ref C3) (.ref C17) = some false)
    (xu4_1 : PySem.W.subIn K (.ref C4) (.ref C1) = some false)
    (xu4_2 : PySem.W.subIn K (.ref C4) (.ref C2) = some false)
    (xu4_3 : PySem.W.subIn K (.ref C4) (.ref C3) = some false)
    (xu4_4 : PySem.W.subIn K (.ref C4) (.ref C4) = some true)
    (xu4_5 : PySem.W.subIn K (.ref C4) (.ref C5) = some false)
    (xu4_6 : PySem.W.subIn K (.ref C4) (.ref C6) = some false)
    (xu4_7 : PySem.W.subIn K (.ref C4) (.ref C7) = some false)
    (xu4_8 : PySem.W.subIn K (.ref C4) (.ref C8) = some false)
    (xu4_9 : PySem.W.subIn K (.ref C4) (.ref C9) = some false)
    (xu4_10 : PySem.W.subIn K (.ref C4) (.ref C10) = some false)
    (xu4_11 : PySem.W.subIn K (.ref C4) (.ref C11) = some false)
    (xu4_12 : PySem.W.subIn K (.ref C4) (.ref C12) = some false)
    (xu4_13 : PySem.W.subIn K (.ref C4) (.ref C13) = some false)
    (xu4_14 : PySem.W.subIn K (.ref C4) (.ref C14) = some false)
    (xu4_15 : PySem.W.subIn K (.ref C4) (.ref C15) = some false)
    (xu4_16 : PySem.W.subIn K (.ref C4) (.ref C16) = some false)
    (xu4_17 : PySem.W.subIn K (.ref C4) (.ref C17) = some false)
    (xu5_1 : PySem.W.subIn K (.ref C5) (.ref C1) = some false)
    (xu5_2 : PySem.W.subIn K (.ref C5) (.ref C2) = some false)
    (xu5_3 : PySem.W.subIn K (.ref C5) (.ref C3) = some false)
    (xu5_4 : PySem.W.subIn K (.ref C5) (.ref C4) = some false)
    (xu5_5 : PySem.W.subIn K (.ref C5) (.ref C5) = some true)
    (xu5_6 : PySem.W.subIn K (.ref C5) (.ref C6) = some false)
    (xu5_7 : PySem.W.subIn K (.ref C5) (.ref C7) = some false)
    (xu5_8 : PySem.W.subIn K (.ref C5) (.ref C8) = some false)
    (xu5_9 : PySem.W.subIn K (.ref C5) (.ref C9) = some false)
    (xu5_10 : PySem.W.subIn K (.ref C5) (.ref C10) = some false)
    (xu5_11 : PySem.W.subIn K (.ref C5) (.ref C11) = some false)
    (xu5_12 : PySem.W.subIn K (.ref C5) (.ref C12) = some false)
    (xu5_13 : PySem.W.subIn K (.ref C5) (.ref C13) = some false)
    (xu5_14 : PySem.W.subIn K (.ref C5) (.ref C14) = some false)
    (xu5_15 : PySem.W.subIn K (.ref C5) (.ref C15) = some false)
    (xu5_16 : PySem.W.subIn K (.ref C5) (.ref C16) = some false)
    (xu5_17 : PySem.W.subIn K (.ref C5) (.ref C17) = some false)
    (xu6_1 : PySem.W.subIn K (.ref C6) (.ref C1) = some false)
    (xu6_2 : PySem.W.subIn K (.ref C6) (.ref C2) = some false)
    (xu6_3 : PySem.W.subIn K (.ref C6) (.ref C3) = some false)
    (xu6_4 : PySem.W.subIn K (.ref C6) (.ref C4) = some false)
    (xu6_5 : PySem.W.subIn K (.ref C6) (.ref C5) = some false)
    (xu6_6 : PySem.W.subIn K (.ref C6) (.ref C6) = some true)
    (xu6_7 : PySem.W.subIn K (.ref C6) (.ref C7) = some false)
    (xu6_8 : PySem.W.subIn K (.ref C6) (.ref C8) = some false)
    (xu6_9 : PySem.W.subIn K (.ref C6) (.ref C9) = some false)
    (xu6_10 : PySem.W.subIn K (.ref C6) (.ref C10) = some false)
    (xu6_11 : PySem.W.subIn K (.ref C6) (.ref C11) = some false)
    (xu6_12 : PySem.W.subIn K (.ref C6) (.ref C12) = some false)
    (xu6_13 : PySem.W.subIn K (.ref C6) (.ref C13) = some false)
    (xu6_14 : PySem.W.subIn K (.ref C6) (.ref C14) = some false)
    (xu6_15 : PySem.W.subIn K (.ref C6) (.ref C15) = some false)
    (xu6_16 : PySem.W.subIn K (.ref C6) (.ref C16) = some false)
    (xu6_17 : PySem.W.subIn K (.ref C6) (.ref C17) = some false)
    (xu7_1 : PySem.W.subIn K (.ref C7) (.ref C1) = some false)
    (xu7_2 : PySem.W.subIn K (.ref C7) (.ref C2) = some false)
    (xu7_3 : PySem.W.subIn K (.ref C7) (.ref C3) = some false)
    (xu7_4 : PySem.W.subIn K (.ref C7) (.ref C4) = some false)
    (xu7_5 : PySem.W.subIn K (.ref C7) (.ref C5) = some false)
    (xu7_6 : PySem.W.subIn K (.ref C7) (.ref C6) = some false)
    (xu7_7 : PySem.W.subIn K (.ref C7) (.ref C7) = some true)
    (xu7_8 : PySem.W.subIn K (.ref C7) (.ref C8) = some false)
    (xu7_9 : PySem.W.subIn K (.ref C7) (.ref C9) = some false)
    (xu7_10 : PySem.W.subIn K (.ref C7) (.ref C10) = some false)
    (xu7_11 : PySem.W.subIn K (.ref C7) (.ref C11) = some false)
    (xu7_12 : PySem.W.subIn K (.ref C7) (.ref C12) = some false)
    (xu7_13 : PySem.W.subIn K (.ref C7) (.ref C13) = some false)
    (xu7_14 : PySem.W.subIn K (.ref C7) (.ref C14) = some false)
    (xu7_15 : PySem.W.subIn K (.ref C7) (.ref C15) = some false)
    (xu7_16 : PySem.W.subIn K (.ref C7) (.ref C16) = some false)
    (xu7_17 : PySem.W.subIn K (.ref C7) (.ref C17) = some false)
    (xu8_1 : PySem.W.subIn K (.ref C8) (.ref C1) = some false)
    (xu8_2 : PySem.W.subIn K (.ref C8) (.ref C2) = some false)
    (xu8_3 : PySem.W.subIn K (.ref C8) (.ref C3) = some false)
    (xu8_4 : PySem.W.subIn K (.ref C8) (.ref C4) = some false)
    (xu8_5 : PySem.W.subIn K (.ref C8) (.ref C5) = some false)
    (xu8_6 : PySem.W.subIn K (.ref C8) (.ref C6) = some false)
    (xu8_7 : PySem.W.subIn K (.ref C8) (.ref C7) = some false)
    (xu8_8 : PySem.W.subIn K (.ref C8) (.ref C8) = some true)
    (xu8_9 : PySem.W.subIn K (.ref C8) (.ref C9) = some false)
    (xu8_10 : PySem.W.subIn K (.ref C8) (.ref C10) = some false)
    (xu8_11 : PySem.W.subIn K (.ref C8) (.ref C11) = some false)
    (xu8_12 : PySem.W.subIn K (.ref C8) (.ref C12) = some false)
    (xu8_13 : PySem.W.subIn K (.ref C8) (.ref C13) = some false)
    (xu8_14 : PySem.W.subIn K (.ref C8) (.ref C14) = some false)
    (xu8_15 : PySem.W.subIn K (.ref C8) (.ref C15) = some false)
    (xu8_16 : PySem.W.subIn K (.ref C8) (.ref C16) = some false)
    (xu8_17 : PySem.W.subIn K (.ref C8) (.ref C17) = some false)
    (xu9_1 : PySem.W.subIn K (.ref C9) (.ref C1) = some false)
    (xu9_2 : PySem.W.subIn K (.ref C9) (.ref C2) = some false)
    (xu9_3 : PySem.W.subIn K (.ref C9) (.ref C3) = some false)
    (xu9_4 : PySem.W.subIn K (.ref C9) (.ref C4) = some false)
    (xu9_5 : PySem.W.subIn K (.ref C9) (.ref C5) = some false)
    (xu9_6 : PySem.W.subIn K (.ref C9) (.ref C6) = some false)
    (xu9_7 : PySem.W.subIn K (.ref C9) (.ref C7) = some false)
    (xu9_8 : PySem.W.subIn K (.ref C9) (.ref C8) = some false)
    (xu9_9 : PySem.W.subIn K (.ref C9) (.ref C9) = some true)
    (xu9_10 : PySem.W.subIn K (.ref C9) (.ref C10) = some false)
    (xu9_11 : PySem.W.subIn K (.ref C9) (.ref C11) = some false)
    (xu9_12 : PySem.W.subIn K (.ref C9) (.ref C12) = some false)
    (xu9_13 : PySem.W.subIn K (.ref C9) (.ref C13) = some false)
    (xu9_14 : PySem.W.subIn K (.ref C9) (.ref C14) = some false)
    (xu9_15 : PySem.W.subIn K (.ref C9) (.ref C15) = some false)
    (xu9_16 : PySem.W.subIn K (.ref C9) (.ref C16) = some false)
    (xu9_17 : PySem.W.subIn K (.ref C9) (.ref C17) = some false)
    (xu10_1 : PySem.W.subIn K (.ref C10) (.ref C1) = some false)
    (xu10_2 : PySem.W.subIn K (.ref C10) (.ref C2) = some false)
    (xu10_3 : PySem.W.subIn K (.ref C10) (.ref C3) = some false)
    (xu10_4 : PySem.W.subIn K (.ref C10) (.ref C4) = some false)
    (xu10_5 : PySem.W.subIn K (.ref C10) (.ref C5) = some false)
    (xu10_6 : PySem.W.subIn K (.ref C10) (.ref C6) = some false)
    (xu10_7 : PySem.W.subIn K (.ref C10) (.ref C7) = some false)
    (xu10_8 : PySem.W.subIn K (.ref C10) (.ref C8) = some false)
    (xu10_9 : PySem.W.subIn K (.ref C10) (.ref C9) = some false)
    (xu10_10 : PySem.W.subIn K (.ref C10) (.ref C10) = some true)
    (xu10_11 : PySem.W.subIn K (.ref C10) (.ref C11) = some false)
    (xu10_12 : PySem.W.subIn K (.ref C10) (.ref C12) = some false)
    (xu10_13 : PySem.W.subIn K (.ref C10) (.ref C13) = some false)
    (xu10_14 : PySem.W.subIn K (.ref C10) (.ref C14) = some false)
    (xu10_15 : PySem.W.subIn K (.ref C10) (.ref C15) = some false)
    (xu10_16 : PySem.W.subIn K (.ref C10) (.ref C16) = some false)
    (xu10_17 : PySem.W.subIn K (.ref C10) (.ref C17) = some false)
    (xu11_1 : PySem.W.subIn K (.ref C11) (.ref C1) = some false)
    (xu11_2 : PySem.W.subIn K (.ref C11) (.ref C2) = some false)
    (xu11_3 : PySem.W.subIn K (.ref C11) (.ref C3) = some false)
    (xu11_4 : PySem.W.subIn K (.ref C11) (.ref C4) = some false)
    (xu11_5 : PySem.W.subIn K (.ref C11) (.ref C5) = some false)
    (xu11_6 : PySem.W.subIn K (.ref C11) (.ref C6) = some false)
    (xu11_7 : PySem.W.subIn K (.ref C11) (.ref C7) = some false)
    (xu11_8 : PySem.W.subIn K (.ref C11) (.ref C8) = some false)
    (xu11_9 : PySem.W.subIn K (.ref C11) (.ref C9) = some false)
    (xu11_10 : PySem.W.subIn K (.ref C11) (.ref C10) = some false)
    (xu11_11 : PySem.W.subIn K (.ref C11) (.ref C11) = some true)
    (xu11_12 : PySem.W.subIn K (.ref C11) (.ref C12) = some false)
    (xu11_13 : PySem.W.subIn K (.ref C11) (.ref C13) = some false)
    (xu11_14 : PySem.W.subIn K (.ref C11) (.ref C14) = some false)
    (xu11_15 : PySem.W.subIn K (.ref C11) (.ref C15) = some false)
    (xu11_16 : PySem.W.subIn K (.ref C11) (.ref C16) = some false)
    (xu11_17 : PySem.W.subIn K (.ref C11) (.ref C17) = some false)
    (xu12_1 : PySem.W.subIn K (.ref C12) (.ref C1) = some false)
    (xu12_2 : PySem.W.subIn K (.ref C12) (.ref C2) = some false)
    (xu12_3 : PySem.W.subIn K (.ref C12) (.ref C3) = some false)
    (xu12_4 : PySem.W.subIn K (.ref C12) (.ref C4) = some false)
    (xu12_5 : PySem.W.subIn K (.ref C12) (.ref C5) = some false)
    (xu12_6 : PySem.W.subIn K (.ref C12) (.ref C6) = some false)
    (xu12_7 : PySem.W.subIn K (.ref C12) (.ref C7) = some false)
    (xu12_8 : PySem.W.subIn K (.ref C12) (.ref C8) = some false)
    (xu12_9 : PySem.W.subIn K (.ref C12) (.ref C9) = some false)
    (xu12_10 : PySem.W.subIn K (.ref C12) (.ref C10) = some false)
    (xu12_11 : PySem.W.subIn K (.ref C12) (.ref C11) = some false)
    (xu12_12 : PySem.W.subIn K (.ref C12) (.ref C12) = some true)
    (xu12_13 : PySem.W.subIn K (.ref C12) (.ref C13) = some false)
    (xu12_14 : PySem.W.subIn K (.ref C12) (.ref C14) = some false)
    (xu12_15 : PySem.W.subIn K (.ref C12) (.ref C15) = some false)
    (xu12_16 : PySem.W.subIn K (.ref C12) (.ref C16) = some false)
    (xu12_17 : PySem.W.subIn K (.ref C12) (.ref C17) = some false)
    (xu13_1 : PySem.W.subIn K (.ref C13) (.ref C1) = some false)
    (xu13_2 : PySem.W.subIn K (.ref C13) (.ref C2) = some false)
    (xu13_3 : PySem.W.subIn K (.ref C13) (.ref C3) = some false)
    (xu13_4 : PySem.W.subIn K (.ref C13) (.ref C4) = some false)
    (xu13_5 : PySem.W.subIn K (.ref C13) (.ref C5) = some false)
    (xu13_6 : PySem.W.subIn K (.ref C13) (.ref C6) = some false)
    (xu13_7 : PySem.W.subIn K (.ref C13) (.ref C7) = some false)
    (xu13_8 : PySem.W.subIn K (.ref C13) (.ref C8) = some false)
    (xu13_9 : PySem.W.subIn K (.ref C13) (.ref C9) = some false)
    (xu13_10 : PySem.W.subIn K (.ref C13) (.ref C10) = some false)
    (xu13_11 : PySem.W.subIn K (.ref C13) (.ref C11) = some false)
    (xu13_12 : PySem.W.subIn K (.ref C13) (.ref C12) = some false)
    (xu13_13 : PySem.W.subIn K (.ref C13) (.ref C13) = some true)
    (xu13_14 : PySem.W.subIn K (.ref C13) (.ref C14) = some false)
    (xu13_15 : PySem.W.subIn K (.ref C13) (.ref C15) = some false)
    (xu13_16 : PySem.W.subIn K (.ref C13) (.ref C16) = some false)
    (xu13_17 : PySem.W.subIn K (.ref C13) (.ref C17) = some false)
    (xu14_1 : PySem.W.subIn K (.ref C14) (.ref C1) = some false)
    (xu14_2 : PySem.W.subIn K (.ref C14) (.ref C2) = some false)
    (xu14_3 : PySem.W.subIn K (.ref C14) (.ref C3) = some false)
    (xu14_4 : PySem.W.subIn K (.ref C14) (.ref C4) = some false)
    (xu14_5 : PySem.W.subIn K (.ref C14) (.ref C5) = some false)
    (xu14_6 : PySem.W.subIn K (.ref C14) (.ref C6) = some false)
    (xu14_7 : PySem.W.subIn K (.ref C14) (.ref C7) = some false)
    (xu14_8 : PySem.W.subIn K (.ref C14) (.ref C8) = some false)
    (xu14_9 : PySem.W.subIn K (.ref C14) (.ref C9) = some false)
    (xu14_10 : PySem.W.subIn K (.ref C14) (.ref C10) = some false)
    (xu14_11 : PySem.W.subIn K (.ref C14) (.ref C11) = some false)
    (xu14_12 : PySem.W.subIn K (.ref C14) (.ref C12) = some false)
    (xu14_13 : PySem.W.subIn K (.ref C14) (.ref C13) = some false)
    (xu14_14 : PySem.W.subIn K (.ref C14) (.ref C14) = some true)
    (xu14_15 : PySem.W.subIn K (.ref C14) (.ref C15) = some false)
    (xu14_16 : PySem.W.subIn K (.ref C14) (.ref C16) = some false)
    (xu14_17 : PySem.W.subIn K (.ref C14) (.ref C17) = some false)
    (xu15_1 : PySem.W.subIn K (.ref C15) (.ref C1) = some false)
    (xu15_2 : PySem.W.subIn K (.ref C15) (.ref C2) = some false)
    (xu15_3 : PySem.W.subIn K (.ref C15) (.ref C3) = some false)
    (xu15_4 : PySem.W.subIn K (.ref C15) (.ref C4) = some false)
    (xu15_5 : PySem.W.subIn K (.ref C15) (.ref C5) = some false)
    (xu15_6 : PySem.W.subIn K (.ref C15) (.ref C6) = some false)
    (xu15_7 : PySem.W.subIn K (.ref C15) (.ref C7) = some false)
    (xu15_8 : PySem.W.subIn K (.ref C15) (.ref C8) = some false)
    (xu15_9 : PySem.W.subIn K (.ref C15) (.ref C9) = some false)
    (xu15_10 : PySem.W.subIn K (.ref C15) (.ref C10) = some false)
    (xu15_11 : PySem.W.subIn K (.ref C15) (.ref C11) = some false)
    (xu15_12 : PySem.W.subIn K (.ref C15) (.ref C12) = some false)
    (xu15_13 : PySem.W.subIn K (.ref C15) (.ref C13) = some false)
    (xu15_14 : PySem.W.subIn K (.ref C15) (.ref C14) = some false)
    (xu15_15 : PySem.W.subIn K (.ref C15) (.ref C15) = some true)
    (xu15_16 : PySem.W.subIn K (.ref C15) (.ref C16) = some false)
    (xu15_17 : PySem.W.subIn K (.ref C15) (.ref C17) = some false)
    (xu16_1 : PySem.W.subIn K (.ref C16) (.ref C1) = some false)
    (xu16_2 : PySem.W.subIn K (.ref C16) (.ref C2) = some false)
    (xu16_3 : PySem.W.subIn K (.ref C16) (.ref C3) = some false)
    (xu16_4 : PySem.W.subIn K (.ref C16) (.ref C4) = some false)
    (xu16_5 : PySem.W.subIn K (.ref C16) (.ref C5) = some false)
    (xu16_6 : PySem.W.subIn K (.ref C16) (.ref C6) = some false)
    (xu16_7 : PySem.W.subIn K (.ref C16) (.ref C7) = some false)
    (xu16_8 : PySem.W.subIn K (.ref C16) (.ref C8) = some false)
    (xu16_9 : PySem.W.subIn K (.ref C16) (.ref C9) = some false)
    (xu16_10 : PySem.W.subIn K (.ref C16) (.ref C10) = some false)
    (xu16_11 : PySem.W.subIn K (.ref C16) (.ref C11) = some false)
    (xu16_12 : PySem.W.subIn K (.ref C16) (.ref C12) = some false)
    (xu16_13 : PySem.W.subIn K (.ref C16) (.ref C13) = some false)
    (xu16_14 : PySem.W.subIn K (.ref C16) (.ref C14) = some false)
    (xu16_15 : PySem.W.subIn K (.ref C16) (.ref C15) = some false)
    (xu16_16 : PySem.W.subIn K (.ref C16) (.ref C16) = some true)
    (xu16_17 : PySem.W.subIn K (.ref C16) (.ref C17) = some false)
    (xu17_1 : PySem.W.subIn K (.ref C17) (.ref C1) = some false)
    (xu17_2 : PySem.W.subIn K (.ref C17) (.ref C2) = some false)
    (xu17_3 : PySem.W.subIn K (.ref C17) (.ref C3) = some false)
    (xu17_4 : PySem.W.subIn K (.ref C17) (.ref C4) = some false)
    (xu17_5 : PySem.W.subIn K (.ref C17) (.ref C5) = some false)
    (xu17_6 : PySem.W.subIn K (.ref C17) (.ref C6) = some false)
    (xu17_7 : PySem.W.subIn K (.ref C17) (.ref C7) = some false)
    (xu17_8 : PySem.W.subIn K (.ref C17) (.ref C8) = some false)
    (xu17_9 : PySem.W.subIn K (.ref C17) (.ref C9) = some false)
    (xu17_10 : PySem.W.subIn K (.ref C17) (.ref C10) = some false)
    (xu17_11 : PySem.W.subIn K (.ref C17) (.ref C11) = some false)
    (xu17_12 : PySem.W.subIn K (.ref C17) (.ref C12) = some false)
    (xu17_13 : PySem.W.subIn K (.ref C17) (.ref C13) = some false)
    (xu17_14 : PySem.W.subIn K (.ref C17) (.ref C14) = some false)
    (xu17_15 : PySem.W.subIn K (.ref C17) (.ref C15) = some false)
    (xu17_16 : PySem.W.subIn K (.ref C17) (.ref C16) = some false)
    (xu17_17 : PySem.W.subIn K (.ref C17) (.ref C17) = some true)
    (xv1 : PySem.W.subIn K (.ref C1) (.type "ValueError") = some true)
    (xv2 : PySem.W.subIn K (.ref C2) (.type "ValueError") = some true)
    (xv3 : PySem.W.subIn K (.ref C3) (.type "ValueError") = some true)
    (xv4 : PySem.W.subIn K (.ref C4) (.type "ValueError") = some true)
    (xv5 : PySem.W.subIn K (.ref C5) (.type "ValueError") = some true)
    (xv6 : PySem.W.subIn K (.ref C6) (.type "ValueError") = some true)
    (xv7 : PySem.W.subIn K (.ref C7) (.type "ValueError") = some true)
    (xv8 : PySem.W.subIn K (.ref C8) (.type "ValueError") = some true)
    (xv9 : PySem.W.subIn K (.ref C9) (.type "ValueError") = some true)
    (xv10 : PySem.W.subIn K (.ref C10) (.type "ValueError") = some true)
    (xv11 : PySem.W.subIn K (.ref C11) (.type "ValueError") = some true)
    (xv12 : PySem.W.subIn K (.ref C12) (.type "ValueError") = some true)
    (xv13 : PySem.W.subIn K (.ref C13) (.type "ValueError") = some true)
    (xv14 : PySem.W.subIn K (.ref C14) (.type "ValueError") = some true)
    (xv15 : PySem.W.subIn K (.ref C15) (.type "ValueError") = some true)
    (xv16 : PySem.W.subIn K (.ref C16) (.type "ValueError") = some true)
    (xv17 : PySem.W.subIn K (.ref C17) (.type "ValueError") = some true)
    {f0 : Addr} {od0 an0 : Option Addr} {sl0 : Array (Option Value)} {oc0 kV0 dc0 pm0 cd0 ct0 : Value}
    (a0 : PySem.W.findIn K (.ref C11) "__init__" = some (some (.ref f0))) (l0 : K.lookup f0 = some ⟨oc0, od0, .func (PySem.W.fnOf "__init__" "NoOctets.__init__" (defArgs s_NoOctets_init) (defBody s_NoOctets_init) (defScope s_NoOctets_init) .none kV0 dc0 pm0 an0 cd0 ct0), sl0⟩) (c0 : PySem.W.codeIn K cd0 "NoOctets.__init__" = true) (k0 : PySem.W.keepIn K (.ref f0) = true)
    (i0 : PySem.W.isFn K (.ref f0) = true) (t0 : PySem.W.typeIn K (.ref f0) = some (.type "function"))
    {f1 : Addr} {od1 an1 : Option Addr} {sl1 : Array (Option Value)} {oc1 kV1 dc1 pm1 cd1 ct1 : Value}
    (a1 : PySem.W.findIn K (.ref C12) "__init__" = some (some (.ref f1))) (l1 : K.lookup f1 = some ⟨oc1, od1, .func (PySem.W.fnOf "__init__" "BadTable.__init__" (defArgs s_BadTable_init) (defBody s_BadTable_init) (defScope s_BadTable_init) .none kV1 dc1 pm1 an1 cd1 ct1), sl1⟩) (c1 : PySem.W.codeIn K cd1 "BadTable.__init__" = true) (k1 : PySem.W.keepIn K (.ref f1) = true)
    (i1 : PySem.W.isFn K (.ref f1) = true) (t1 : PySem.W.typeIn K (.ref f1) = some (.type "function"))
    {f2 : Addr} {od2 an2 : Option Addr} {sl2 : Array (Option Value)} {oc2 kV2 dc2 pm2 cd2 ct2 : Value}
    (a2 : PySem.W.findIn K (.ref C13) "__init__" = some (some (.ref f2))) (l2 : K.lookup f2 = some ⟨oc2, od2, .func (PySem.W.fnOf "__init__" "BadBlock.__init__" (defArgs s_BadBlock_init) (defBody s_BadBlock_init) (defScope s_BadBlock_init) .none kV2 dc2 pm2 an2 cd2 ct2), sl2⟩) (c2 : PySem.W.codeIn K cd2 "BadBlock.__init__" = true) (k2 : PySem.W.keepIn K (.ref f2) = true)
    (i2 : PySem.W.isFn K (.ref f2) = true) (t2 : PySem.W.typeIn K (.ref f2) = some (.type "function"))
    {f3 : Addr} {od3 an3 : Option Addr} {sl3 : Array (Option Value)} {oc3 kV3 dc3 pm3 cd3 ct3 : Value}
    (a3 : PySem.W.findIn K (.ref C14) "__init__" = some (some (.ref f3))) (l3 : K.lookup f3 = some ⟨oc3, od3, .func (PySem.W.fnOf "__init__" "TooMany.__init__" (defArgs s_TooMany_init) (defBody s_TooMany_init) (defScope s_TooMany_init) .none kV3 dc3 pm3 an3 cd3 ct3), sl3⟩) (c3 : PySem.W.codeIn K cd3 "TooMany.__init__" = true) (k3 : PySem.W.keepIn K (.ref f3) = true)
    (i3 : PySem.W.isFn K (.ref f3) = true) (t3 : PySem.W.typeIn K (.ref f3) = some (.type "function"))
    {f4 : Addr} {od4 an4 : Option Addr} {sl4 : Array (Option Value)} {oc4 kV4 dc4 pm4 cd4 ct4 : Value}
    (a4 : PySem.W.findIn K (.ref C15) "__init__" = some (some (.ref f4))) (l4 : K.lookup f4 = some ⟨oc4, od4, .func (PySem.W.fnOf "__init__" "BadAnswer.__init__" (defArgs s_BadAnswer_init) (defBody s_BadAnswer_init) (defScope s_BadAnswer_init) .none kV4 dc4 pm4 an4 cd4 ct4), sl4⟩) (c4 : PySem.W.codeIn K cd4 "BadAnswer.__init__" = true) (k4 : PySem.W.keepIn K (.ref f4) = true)
    (i4 : PySem.W.isFn K (.ref f4) = true) (t4 : PySem.W.typeIn K (.ref f4) = some (.type "function"))
    {f5 : Addr} {od5 an5 : Option Addr} {sl5 : Array (Option Value)} {oc5 kV5 dc5 pm5 cd5 ct5 : Value}
    (a5 : PySem.W.findIn K (.ref C16) "__init__" = some (some (.ref f5))) (l5 : K.lookup f5 = some ⟨oc5, od5, .func (PySem.W.fnOf "__init__" "BadOrder.__init__" (defArgs s_BadOrder_init) (defBody s_BadOrder_init) (defScope s_BadOrder_init) .none kV5 dc5 pm5 an5 cd5 ct5), sl5⟩) (c5 : PySem.W.codeIn K cd5 "BadOrder.__init__" = true) (k5 : PySem.W.keepIn K (.ref f5) = true)
    (i5 : PySem.W.isFn K (.ref f5) = true) (t5 : PySem.W.typeIn K (.ref f5) = some (.type "function"))
    {f6 : Addr} {od6 an6 : Option Addr} {sl6 : Array (Option Value)} {oc6 kV6 dc6 pm6 cd6 ct6 : Value}
    (a6 : PySem.W.findIn K (.ref C17) "__init__" = some (some (.ref f6))) (l6 : K.lookup f6 = some ⟨oc6, od6, .func (PySem.W.fnOf "__init__" "NoAnswer.__init__" (defArgs s_NoAnswer_init) (defBody s_NoAnswer_init) (defScope s_NoAnswer_init) .none kV6 dc6 pm6 an6 cd6 ct6), sl6⟩) (c6 : PySem.W.codeIn K cd6 "NoAnswer.__init__" = true) (k6 : PySem.W.keepIn K (.ref f6) = true)
    (i6 : PySem.W.isFn K (.ref f6) = true) (t6 : PySem.W.typeIn K (.ref f6) = some (.type "function"))
    {f7 : Addr} {od7 an7 : Option Addr} {sl7 : Array (Option Value)} {oc7 kV7 dc7 pm7 cd7 ct7 : Value}
    (a7 : PySem.W.nsIn K mainGlobals "is_between" = some (some (.ref f7))) (l7 : K.lookup f7 = some ⟨oc7, od7, .func (PySem.W.fnOf "is_between" "is_between" (defArgs s_is_between) (defBody s_is_between) (defScope s_is_between) .none kV7 dc7 pm7 an7 cd7 ct7), sl7⟩) (c7 : PySem.W.codeIn K cd7 "is_between" = true) (k7 : PySem.W.keepIn K (.ref f7) = true)
    {f8 : Addr} {od8 an8 : Option Addr} {sl8 : Array (Option Value)} {oc8 kV8 dc8 pm8 cd8 ct8 : Value}
    (a8 : PySem.W.nsIn K mainGlobals "is_number" = some (some (.ref f8))) (l8 : K.lookup f8 = some ⟨oc8, od8, .func (PySem.W.fnOf "is_number" "is_number" (defArgs s_is_number) (defBody s_is_number) (defScope s_is_number) .none kV8 dc8 pm8 an8 cd8 ct8), sl8⟩) (c8 : PySem.W.codeIn K cd8 "is_number" = true) (k8 : PySem.W.keepIn K (.ref f8) = true)
    {f9 : Addr} {od9 an9 : Option Addr} {sl9 : Array (Option Value)} {oc9 kV9 dc9 pm9 cd9 ct9 : Value}
    (a9 : PySem.W.nsIn K mainGlobals "is_text" = some (some (.ref f9))) (l9 : K.lookup f9 = some ⟨oc9, od9, .func (PySem.W.fnOf "is_text" "is_text" (defArgs s_is_text) (defBody s_is_text) (defScope s_is_text) .none kV9 dc9 pm9 an9 cd9 ct9), sl9⟩) (c9 : PySem.W.codeIn K cd9 "is_text" = true) (k9 : PySem.W.keepIn K (.ref f9) = true)
    {f10 : Addr} {od10 an10 : Option Addr} {sl10 : Array (Option Value)} {oc10 kV10 dc10 pm10 cd10 ct10 : Value}
    (a10 : PySem.W.nsIn K mainGlobals "is_value" = some (some (.ref f10))) (l10 : K.lookup f10 = some ⟨oc10, od10, .func (PySem.W.fnOf "is_value" "is_value" (defArgs s_is_value) (defBody s_is_value) (defScope s_is_value) .none kV10 dc10 pm10 an10 cd10 ct10), sl10⟩) (c10 : PySem.W.codeIn K cd10 "is_value" = true) (k10 : PySem.W.keepIn K (.ref f10) = true)
    {f11 : Addr} {od11 an11 : Option Addr} {sl11 : Array (Option Value)} {oc11 kV11 dc11 pm11 cd11 ct11 : Value}
    (a11 : PySem.W.nsIn K mainGlobals "check_prefix" = some (some (.ref f11))) (l11 : K.lookup f11 = some ⟨oc11, od11, .func (PySem.W.fnOf "check_prefix" "check_prefix" (defArgs s_check_prefix) (defBody s_check_prefix) (defScope s_check_prefix) .none kV11 dc11 pm11 an11 cd11 ct11), sl11⟩) (c11 : PySem.W.codeIn K cd11 "check_prefix" = true) (k11 : PySem.W.keepIn K (.ref f11) = true)
    {f12 : Addr} {od12 an12 : Option Addr} {sl12 : Array (Option Value)} {oc12 kV12 dc12 pm12 cd12 ct12 : Value}
    (a12 : PySem.W.nsIn K mainGlobals "prefix_bits" = some (some (.ref f12))) (l12 : K.lookup f12 = some ⟨oc12, od12, .func (PySem.W.fnOf "prefix_bits" "prefix_bits" (defArgs s_prefix_bits) (defBody s_prefix_bits) (defScope s_prefix_bits) .none kV12 dc12 pm12 an12 cd12 ct12), sl12⟩) (c12 : PySem.W.codeIn K cd12 "prefix_bits" = true) (k12 : PySem.W.keepIn K (.ref f12) = true)
    {f13 : Addr} {od13 an13 : Option Addr} {sl13 : Array (Option Value)} {oc13 kV13 dc13 pm13 cd13 ct13 : Value}
    (a13 : PySem.W.nsIn K mainGlobals "number_octets" = some (some (.ref f13))) (l13 : K.lookup f13 = some ⟨oc13, od13, .func (PySem.W.fnOf "number_octets" "number_octets" (defArgs s_number_octets) (defBody s_number_octets) (defScope s_number_octets) .none kV13 dc13 pm13 an13 cd13 ct13), sl13⟩) (c13 : PySem.W.codeIn K cd13 "number_octets" = true) (k13 : PySem.W.keepIn K (.ref f13) = true)
    {f14 : Addr} {od14 an14 : Option Addr} {sl14 : Array (Option Value)} {oc14 kV14 dc14 pm14 cd14 ct14 : Value}
    (a14 : PySem.W.nsIn K mainGlobals "string_octets" = some (some (.ref f14))) (l14 : K.lookup f14 = some ⟨oc14, od14, .func (PySem.W.fnOf "string_octets" "string_octets" (defArgs s_string_octets) (defBody s_string_octets) (defScope s_string_octets) .none kV14 dc14 pm14 an14 cd14 ct14), sl14⟩) (c14 : PySem.W.codeIn K cd14 "string_octets" = true) (k14 : PySem.W.keepIn K (.ref f14) = true)
    {f15 : Addr} {od15 an15 : Option Addr} {sl15 : Array (Option Value)} {oc15 kV15 dc15 pm15 cd15 ct15 : Value}
    (a15 : PySem.W.nsIn K mainGlobals "_law_open" = some (some (.ref f15))) (l15 : K.lookup f15 = some ⟨oc15, od15, .func (PySem.W.fnOf "_law_open" "_law_open" (defArgs s_law_open) (defBody s_law_open) (defScope s_law_open) .none kV15 dc15 pm15 an15 cd15 ct15), sl15⟩) (c15 : PySem.W.codeIn K cd15 "_law_open" = true) (k15 : PySem.W.keepIn K (.ref f15) = true)
    {f16 : Addr} {od16 an16 : Option Addr} {sl16 : Array (Option Value)} {oc16 kV16 dc16 pm16 cd16 ct16 : Value}
    (a16 : PySem.W.nsIn K mainGlobals "_law_spread" = some (some (.ref f16))) (l16 : K.lookup f16 = some ⟨oc16, od16, .func (PySem.W.fnOf "_law_spread" "_law_spread" (defArgs s_law_spread) (defBody s_law_spread) (defScope s_law_spread) .none kV16 dc16 pm16 an16 cd16 ct16), sl16⟩) (c16 : PySem.W.codeIn K cd16 "_law_spread" = true) (k16 : PySem.W.keepIn K (.ref f16) = true)
    {f17 : Addr} {od17 an17 : Option Addr} {sl17 : Array (Option Value)} {oc17 kV17 dc17 pm17 cd17 ct17 : Value}
    (a17 : PySem.W.nsIn K mainGlobals "_law_take" = some (some (.ref f17))) (l17 : K.lookup f17 = some ⟨oc17, od17, .func (PySem.W.fnOf "_law_take" "_law_take" (defArgs s_law_take) (defBody s_law_take) (defScope s_law_take) .none kV17 dc17 pm17 an17 cd17 ct17), sl17⟩) (c17 : PySem.W.codeIn K cd17 "_law_take" = true) (k17 : PySem.W.keepIn K (.ref f17) = true)
    {f18 : Addr} {od18 an18 : Option Addr} {sl18 : Array (Option Value)} {oc18 kV18 dc18 pm18 cd18 ct18 : Value}
    (a18 : PySem.W.nsIn K mainGlobals "_law_one_of" = some (some (.ref f18))) (l18 : K.lookup f18 = some ⟨oc18, od18, .func (PySem.W.fnOf "_law_one_of" "_law_one_of" (defArgs s_law_one_of) (defBody s_law_one_of) (defScope s_law_one_of) .none kV18 dc18 pm18 an18 cd18 ct18), sl18⟩) (c18 : PySem.W.codeIn K cd18 "_law_one_of" = true) (k18 : PySem.W.keepIn K (.ref f18) = true)
    {f19 : Addr} {od19 an19 : Option Addr} {sl19 : Array (Option Value)} {oc19 kV19 dc19 pm19 cd19 ct19 : Value}
    (a19 : PySem.W.nsIn K mainGlobals "_law_signs" = some (some (.ref f19))) (l19 : K.lookup f19 = some ⟨oc19, od19, .func (PySem.W.fnOf "_law_signs" "_law_signs" (defArgs s_law_signs) (defBody s_law_signs) (defScope s_law_signs) .none kV19 dc19 pm19 an19 cd19 ct19), sl19⟩) (c19 : PySem.W.codeIn K cd19 "_law_signs" = true) (k19 : PySem.W.keepIn K (.ref f19) = true)
    {f20 : Addr} {od20 an20 : Option Addr} {sl20 : Array (Option Value)} {oc20 kV20 dc20 pm20 cd20 ct20 : Value}
    (a20 : PySem.W.nsIn K mainGlobals "_law_draw_text" = some (some (.ref f20))) (l20 : K.lookup f20 = some ⟨oc20, od20, .func (PySem.W.fnOf "_law_draw_text" "_law_draw_text" (defArgs s_law_draw_text) (defBody s_law_draw_text) (defScope s_law_draw_text) .none kV20 dc20 pm20 an20 cd20 ct20), sl20⟩) (c20 : PySem.W.codeIn K cd20 "_law_draw_text" = true) (k20 : PySem.W.keepIn K (.ref f20) = true)
    {f21 : Addr} {od21 an21 : Option Addr} {sl21 : Array (Option Value)} {oc21 kV21 dc21 pm21 cd21 ct21 : Value}
    (a21 : PySem.W.nsIn K mainGlobals "_law_draw_number" = some (some (.ref f21))) (l21 : K.lookup f21 = some ⟨oc21, od21, .func (PySem.W.fnOf "_law_draw_number" "_law_draw_number" (defArgs s_law_draw_number) (defBody s_law_draw_number) (defScope s_law_draw_number) .none kV21 dc21 pm21 an21 cd21 ct21), sl21⟩) (c21 : PySem.W.codeIn K cd21 "_law_draw_number" = true) (k21 : PySem.W.keepIn K (.ref f21) = true)
    {f22 : Addr} {od22 an22 : Option Addr} {sl22 : Array (Option Value)} {oc22 kV22 dc22 pm22 cd22 ct22 : Value}
    (a22 : PySem.W.nsIn K mainGlobals "_law_wrong_text" = some (some (.ref f22))) (l22 : K.lookup f22 = some ⟨oc22, od22, .func (PySem.W.fnOf "_law_wrong_text" "_law_wrong_text" (defArgs s_law_wrong_text) (defBody s_law_wrong_text) (defScope s_law_wrong_text) .none kV22 dc22 pm22 an22 cd22 ct22), sl22⟩) (c22 : PySem.W.codeIn K cd22 "_law_wrong_text" = true) (k22 : PySem.W.keepIn K (.ref f22) = true)
    {f23 : Addr} {od23 an23 : Option Addr} {sl23 : Array (Option Value)} {oc23 kV23 dc23 pm23 cd23 ct23 : Value}
    (a23 : PySem.W.nsIn K mainGlobals "_law_is_refused" = some (some (.ref f23))) (l23 : K.lookup f23 = some ⟨oc23, od23, .func (PySem.W.fnOf "_law_is_refused" "_law_is_refused" (defArgs s_law_is_refused) (defBody s_law_is_refused) (defScope s_law_is_refused) .none kV23 dc23 pm23 an23 cd23 ct23), sl23⟩) (c23 : PySem.W.codeIn K cd23 "_law_is_refused" = true) (k23 : PySem.W.keepIn K (.ref f23) = true)
    {f24 : Addr} {od24 an24 : Option Addr} {sl24 : Array (Option Value)} {oc24 kV24 dc24 pm24 cd24 ct24 : Value}
    (a24 : PySem.W.nsIn K mainGlobals "_law_made_right" = some (some (.ref f24))) (l24 : K.lookup f24 = some ⟨oc24, od24, .func (PySem.W.fnOf "_law_made_right" "_law_made_right" (defArgs s_law_made_right) (defBody s_law_made_right) (defScope s_law_made_right) .none kV24 dc24 pm24 an24 cd24 ct24), sl24⟩) (c24 : PySem.W.codeIn K cd24 "_law_made_right" = true) (k24 : PySem.W.keepIn K (.ref f24) = true)
    {f25 : Addr} {od25 an25 : Option Addr} {sl25 : Array (Option Value)} {oc25 kV25 dc25 pm25 cd25 ct25 : Value}
    (a25 : PySem.W.nsIn K mainGlobals "law" = some (some (.ref f25))) (l25 : K.lookup f25 = some ⟨oc25, od25, .func (PySem.W.fnOf "law" "law" (defArgs s_law) (defBody s_law) (defScope s_law) .none kV25 dc25 pm25 an25 cd25 ct25), sl25⟩) (c25 : PySem.W.codeIn K cd25 "law" = true) (k25 : PySem.W.keepIn K (.ref f25) = true)
    {tk0 : Tok} (v0 : PySem.W.nsIn K mainGlobals "NUMBER_MOST" = some (some (.int 9999 tk0)))
    {tk1 : Tok} (v1 : PySem.W.nsIn K mainGlobals "VALUE_MOST" = some (some (.int 40 tk1)))
    {ad2 : Addr} {es2 : Array DictEntry} {nd2 : Nat} (v2 : PySem.W.nsIn K mainGlobals "CHARACTERS" = some (some (.ref ad2))) (w2 : K.lookup ad2 = some ⟨.type "dict", none, .dict es2 nd2, #[]⟩) (e2 : EntI es2.toList chars) (q2 : (ad2 == sysModules) = false)
    (z0 : PySem.W.nsIn K mainGlobals "ValueError" = some none)
    (z1 : PySem.W.nsIn K mainGlobals "all" = some none)
    (z2 : PySem.W.nsIn K mainGlobals "bool" = some none)
    (z3 : PySem.W.nsIn K mainGlobals "enumerate" = some none)
    (z4 : PySem.W.nsIn K mainGlobals "int" = some none)
    (z5 : PySem.W.nsIn K mainGlobals "isinstance" = some none)
    (z6 : PySem.W.nsIn K mainGlobals "len" = some none)
    (z7 : PySem.W.nsIn K mainGlobals "list" = some none)
    (z8 : PySem.W.nsIn K mainGlobals "max" = some none)
    (z9 : PySem.W.nsIn K mainGlobals "min" = some none)
    (z10 : PySem.W.nsIn K mainGlobals "ord" = some none)
    (z11 : PySem.W.nsIn K mainGlobals "range" = some none)
    (z12 : PySem.W.nsIn K mainGlobals "repr" = some none)
    (z13 : PySem.W.nsIn K mainGlobals "str" = some none)
    : ∃ fd : FuncData, (∀ (s : Shared) (v : Value), BindsTo s fd ⟨[v], []⟩ [("script", v)]) ∧ TopOk l.prog w K mg 6 fa fd ["script"] (spLaw K) := by
  have e := hfa.symm.trans (PySem.W.mg_of X G a25)
  cases e
  have F0 := fun_mk (st := s_NoOctets_init) l0 c0 k0
  have b0 := F0.binds (ps := ["self", "place"]) fun _ _ _ _ _ _ us hl => match us, hl with | [_, _], _ => rfl
  have F1 := fun_mk (st := s_BadTable_init) l1 c1 k1
  have b1 := F1.binds (ps := ["self", "number"]) fun _ _ _ _ _ _ us hl => match us, hl with | [_, _], _ => rfl
  have F2 := fun_mk (st := s_BadBlock_init) l2 c2 k2
  have b2 := F2.binds (ps := ["self", "stream"]) fun _ _ _ _ _ _ us hl => match us, hl with | [_, _], _ => rfl
  have F3 := fun_mk (st := s_TooMany_init) l3 c3 k3
  have b3 := F3.binds (ps := ["self", "stream"]) fun _ _ _ _ _ _ us hl => match us, hl with | [_, _], _ => rfl
  have F4 := fun_mk (st := s_BadAnswer_init) l4 c4 k4
  have b4 := F4.binds (ps := ["self", "number"]) fun _ _ _ _ _ _ us hl => match us, hl with | [_, _], _ => rfl
  have F5 := fun_mk (st := s_BadOrder_init) l5 c5 k5
  have b5 := F5.binds (ps := ["self", "number"]) fun _ _ _ _ _ _ us hl => match us, hl with | [_, _], _ => rfl
  have F6 := fun_mk (st := s_NoAnswer_init) l6 c6 k6
  have b6 := F6.binds (ps := ["self", "event"]) fun _ _ _ _ _ _ us hl => match us, hl with | [_, _], _ => rfl
  have F7 := fun_mk (st := s_is_between) l7 c7 k7
  have b7 := F7.binds (ps := ["thing", "least", "most"]) fun _ _ _ _ _ _ us hl => match us, hl with | [_, _, _], _ => rfl
  have F8 := fun_mk (st := s_is_number) l8 c8 k8
  have b8 := F8.binds (ps := ["thing"]) fun _ _ _ _ _ _ us hl => match us, hl with | [_], _ => rfl
  have F9 := fun_mk (st := s_is_text) l9 c9 k9
  have b9 := F9.binds (ps := ["thing", "least", "most"]) fun _ _ _ _ _ _ us hl => match us, hl with | [_, _, _], _ => rfl
  have F10 := fun_mk (st := s_is_value) l10 c10 k10
  have b10 := F10.binds (ps := ["thing"]) fun _ _ _ _ _ _ us hl => match us, hl with | [_], _ => rfl
  have F11 := fun_mk (st := s_check_prefix) l11 c11 k11
  have b11 := F11.binds (ps := ["prefix", "mark"]) fun _ _ _ _ _ _ us hl => match us, hl with | [_, _], _ => rfl
  have F12 := fun_mk (st := s_prefix_bits) l12 c12 k12
  have b12 := F12.binds (ps := ["prefix"]) fun _ _ _ _ _ _ us hl => match us, hl with | [_], _ => rfl
  have F13 := fun_mk (st := s_number_octets) l13 c13 k13
  have b13 := F13.binds (ps := ["number", "prefix", "mark"]) fun _ _ _ _ _ _ us hl => match us, hl with | [_, _, _], _ => rfl
  have F14 := fun_mk (st := s_string_octets) l14 c14 k14
  have b14 := F14.binds (ps := ["text", "prefix", "mark"]) fun _ _ _ _ _ _ us hl => match us, hl with | [_, _, _], _ => rfl
  have F15 := fun_mk (st := s_law_open) l15 c15 k15
  have b15 := F15.binds (ps := ["script"]) fun _ _ _ _ _ _ us hl => match us, hl with | [_], _ => rfl
  have F16 := fun_mk (st := s_law_spread) l16 c16 k16
  have b16 := F16.binds (ps := ["cell", "at"]) fun _ _ _ _ _ _ us hl => match us, hl with | [_, _], _ => rfl
  have F17 := fun_mk (st := s_law_take) l17 c17 k17
  have b17 := F17.binds (ps := ["pen", "amount"]) fun _ _ _ _ _ _ us hl => match us, hl with | [_, _], _ => rfl
  have F18 := fun_mk (st := s_law_one_of) l18 c18 k18
  have b18 := F18.binds (ps := ["pen", "some"]) fun _ _ _ _ _ _ us hl => match us, hl with | [_, _], _ => rfl
  have F19 := fun_mk (st := s_law_signs) l19 c19 k19
  have b19 := F19.binds (ps := []) fun _ _ _ _ _ _ us hl => match us, hl with | [], _ => rfl
  have F20 := fun_mk (st := s_law_draw_text) l20 c20 k20
  have b20 := F20.binds (ps := ["pen", "least", "most"]) fun _ _ _ _ _ _ us hl => match us, hl with | [_, _, _], _ => rfl
  have F21 := fun_mk (st := s_law_draw_number) l21 c21 k21
  have b21 := F21.binds (ps := ["pen"]) fun _ _ _ _ _ _ us hl => match us, hl with | [_], _ => rfl
  have F22 := fun_mk (st := s_law_wrong_text) l22 c22 k22
  have b22 := F22.binds (ps := ["pen"]) fun _ _ _ _ _ _ us hl => match us, hl with | [_], _ => rfl
  have F23 := fun_mk (st := s_law_is_refused) l23 c23 k23
  have b23 := F23.binds (ps := ["way", "value", "prefix", "mark"]) fun _ _ _ _ _ _ us hl => match us, hl with | [_, _, _, _], _ => rfl
  have F24 := fun_mk (st := s_law_made_right) l24 c24 k24
  have b24 := F24.binds (ps := ["pen"]) fun _ _ _ _ _ _ us hl => match us, hl with | [_], _ => rfl
  have F25 := fun_mk (st := s_law) l25 c25 k25
  have b25 := F25.binds (ps := ["script"]) fun _ _ _ _ _ _ us hl => match us, hl with | [_], _ => rfl
  let T : Txt K mg := {
    f_NoOctets_init := f0
    d_NoOctets_init := _
    F_NoOctets_init := F0
    b_NoOctets_init := b0
    f_BadTable_init := f1
    d_BadTable_init := _
    F_BadTable_init := F1
    b_BadTable_init := b1
    f_BadBlock_init := f2
    d_BadBlock_init := _
    F_BadBlock_init := F2
    b_BadBlock_init := b2
    f_TooMany_init := f3
    d_TooMany_init := _
    F_TooMany_init := F3
    b_TooMany_init := b3
    f_BadAnswer_init := f4
    d_BadAnswer_init := _
    F_BadAnswer_init := F4
    b_BadAnswer_init := b4
    f_BadOrder_init := f5
    d_BadOrder_init := _
    F_BadOrder_init := F5
    b_BadOrder_init := b5
    f_NoAnswer_init := f6
    d_NoAnswer_init := _
    F_NoAnswer_init := F6
    b_NoAnswer_init := b6
    f_is_between := f7
    d_is_between := _
    F_is_between := F7
    b_is_between := b7
    g_is_between := PySem.W.mg_of X G a7
    f_is_number := f8
    d_is_number := _
    F_is_number := F8
    b_is_number := b8
    g_is_number := PySem.W.mg_of X G a8
    f_is_text := f9
    d_is_text := _
    F_is_text := F9
    b_is_text := b9
    g_is_text := PySem.W.mg_of X G a9
    f_is_value := f10
    d_is_value := _
    F_is_value := F10
    b_is_value := b10
    g_is_value := PySem.W.mg_of X G a10
    f_check_prefix := f11
    d_check_prefix := _
    F_check_prefix := F11
    b_check_prefix := b11
    g_check_prefix := PySem.W.mg_of X G a11
    f_prefix_bits := f12
    d_prefix_bits := _
    F_prefix_bits := F12
    b_prefix_bits := b12
    g_prefix_bits := PySem.W.mg_of X G a12
    f_number_octets := f13
    d_number_octets := _
    F_number_octets := F13
    b_number_octets := b13
    g_number_octets := PySem.W.mg_of X G a13
    f_string_octets := f14
    d_string_octets := _
    F_string_octets := F14
    b_string_octets := b14
    g_string_octets := PySem.W.mg_of X G a14
    f_law_open := f15
    d_law_open := _
    F_law_open := F15
    b_law_open := b15
    g_law_open := PySem.W.mg_of X G a15
    f_law_spread := f16
    d_law_spread := _
    F_law_spread := F16
    b_law_spread := b16
    g_law_spread := PySem.W.mg_of X G a16
    f_law_take := f17
    d_law_take := _
    F_law_take := F17
    b_law_take := b17
    g_law_take := PySem.W.mg_of X G a17
    f_law_one_of := f18
    d_law_one_of := _
    F_law_one_of := F18
    b_law_one_of := b18
    g_law_one_of := PySem.W.mg_of X G a18
    f_law_signs := f19
    d_law_signs := _
    F_law_signs := F19
    b_law_signs := b19
    g_law_signs := PySem.W.mg_of X G a19
    f_law_draw_text := f20
    d_law_draw_text := _
    F_law_draw_text := F20
    b_law_draw_text := b20
    g_law_draw_text := PySem.W.mg_of X G a20
    f_law_draw_number := f21
    d_law_draw_number := _
    F_law_draw_number := F21
    b_law_draw_number := b21
    g_law_draw_number := PySem.W.mg_of X G a21
    f_law_wrong_text := f22
    d_law_wrong_text := _
    F_law_wrong_text := F22
    b_law_wrong_text := b22
    g_law_wrong_text := PySem.W.mg_of X G a22
    f_law_is_refused := f23
    d_law_is_refused := _
    F_law_is_refused := F23
    b_law_is_refused := b23
    g_law_is_refused := PySem.W.mg_of X G a23
    f_law_made_right := f24
    d_law_made_right := _
    F_law_made_right := F24
    b_law_made_right := b24
    g_law_made_right := PySem.W.mg_of X G a24
    f_law := fa
    d_law := _
    F_law := F25
    b_law := b25
    g_law := PySem.W.mg_of X G a25
    C_FieldError := C0
    m_FieldError := .type "type"
    B_FieldError := ⟨PySem.W.mg_of X G cC0, ⟨rd0, ga0⟩, in0⟩
    R_FieldError := ⟨rb0, rt0, rc0⟩
    C_NoSetting := C1
    P_NoSetting := ⟨PySem.W.mg_of X G cC1, xC1, kC1, eC1, tC1⟩
    S_NoSetting := ⟨eC1, tC1, uC1⟩
    C_NoField := C2
    P_NoField := ⟨PySem.W.mg_of X G cC2, xC2, kC2, eC2, tC2⟩
    S_NoField := ⟨eC2, tC2, uC2⟩
    C_NoValue := C3
    P_NoValue := ⟨PySem.W.mg_of X G cC3, xC3, kC3, eC3, tC3⟩
    S_NoValue := ⟨eC3, tC3, uC3⟩
    C_NoNumber := C4
    P_NoNumber := ⟨PySem.W.mg_of X G cC4, xC4, kC4, eC4, tC4⟩
    S_NoNumber := ⟨eC4, tC4, uC4⟩
    C_NoStream := C5
    P_NoStream := ⟨PySem.W.mg_of X G cC5, xC5, kC5, eC5, tC5⟩
    S_NoStream := ⟨eC5, tC5, uC5⟩
    C_NoOctetList := C6
    P_NoOctetList := ⟨PySem.W.mg_of X G cC6, xC6, kC6, eC6, tC6⟩
    S_NoOctetList := ⟨eC6, tC6, uC6⟩
    C_NoLog := C7
    P_NoLog := ⟨PySem.W.mg_of X G cC7, xC7, kC7, eC7, tC7⟩
    S_NoLog := ⟨eC7, tC7, uC7⟩
    C_Held := C8
    P_Held := ⟨PySem.W.mg_of X G cC8, xC8, kC8, eC8, tC8⟩
    S_Held := ⟨eC8, tC8, uC8⟩
    C_TooGreat := C9
    P_TooGreat := ⟨PySem.W.mg_of X G cC9, xC9, kC9, eC9, tC9⟩
    S_TooGreat := ⟨eC9, tC9, uC9⟩
    C_TooManyStates := C10
    P_TooManyStates := ⟨PySem.W.mg_of X G cC10, xC10, kC10, eC10, tC10⟩
    S_TooManyStates := ⟨eC10, tC10, uC10⟩
    C_NoOctets := C11
    E_NoOctets := ⟨⟨⟨_, _, _, _, _, _, _, _, _, _, _, _, _, _, _, xL11, rv11⟩, sa11, eC11, tC11, kC11⟩, PySem.W.mg_of X G cC11, a0, t0, nb11⟩
    S_NoOctets := ⟨eC11, tC11, uC11⟩
    C_BadTable := C12
    E_BadTable := ⟨⟨⟨_, _, _, _, _, _, _, _, _, _, _, _, _, _, _, xL12, rv12⟩, sa12, eC12, tC12, kC12⟩, PySem.W.mg_of X G cC12, a1, t1, nb12⟩
    S_BadTable := ⟨eC12, tC12, uC12⟩
    C_BadBlock := C13
    E_BadBlock := ⟨⟨⟨_, _, _, _, _, _, _, _, _, _, _, _, _, _, _, xL13, rv13⟩, sa13, eC13, tC13, kC13⟩, PySem.W.mg_of X G cC13, a2, t2, nb13⟩
    S_BadBlock := ⟨eC13, tC13, uC13⟩
    C_TooMany := C14
    E_TooMany := ⟨⟨⟨_, _, _, _, _, _, _, _, _, _, _, _, _, _, _, xL14, rv14⟩, sa14, eC14, tC14, kC14⟩, PySem.W.mg_of X G cC14, a3, t3, nb14⟩
    S_TooMany := ⟨eC14, tC14, uC14⟩
    C_BadAnswer := C15
    E_BadAnswer := ⟨⟨⟨_, _, _, _, _, _, _, _, _, _, _, _, _, _, _, xL15, rv15⟩, sa15, eC15, tC15, kC15⟩, PySem.W.mg_of X G cC15, a4, t4, nb15⟩
    S_BadAnswer := ⟨eC15, tC15, uC15⟩
    C_BadOrder := C16
    E_BadOrder := ⟨⟨⟨_, _, _, _, _, _, _, _, _, _, _, _, _, _, _, xL16, rv16⟩, sa16, eC16, tC16, kC16⟩, PySem.W.mg_of X G cC16, a5, t5, nb16⟩
    S_BadOrder := ⟨eC16, tC16, uC16⟩
    C_NoAnswer := C17
    E_NoAnswer := ⟨⟨⟨_, _, _, _, _, _, _, _, _, _, _, _, _, _, _, xL17, rv17⟩, sa17, eC17, tC17, kC17⟩, PySem.W.mg_of X G cC17, a6, t6, nb17⟩
    S_NoAnswer := ⟨eC17, tC17, uC17⟩
    V_NoSetting := xv1
    V_NoField := xv2
    V_NoValue := xv3
    V_NoNumber := xv4
    V_NoStream := xv5
    V_NoOctetList := xv6
    V_NoLog := xv7
    V_Held := xv8
    V_TooGreat := xv9
    V_TooManyStates := xv10
    V_NoOctets := xv11
    V_BadTable := xv12
    V_BadBlock := xv13
    V_TooMany := xv14
    V_BadAnswer := xv15
    V_BadOrder := xv16
    V_NoAnswer := xv17
    kb_NoOctets_init := ⟨fun s us ws X hl => by obtain ⟨_, _, rfl, rfl⟩ := g2_two hl; exact .of_eq rfl, g2_rel⟩
    kb_BadTable_init := ⟨fun s us ws X hl => by obtain ⟨_, _, rfl, rfl⟩ := g2_two hl; exact .of_eq rfl, g2_rel⟩
    kb_BadBlock_init := ⟨fun s us ws X hl => by obtain ⟨_, _, rfl, rfl⟩ := g2_two hl; exact .of_eq rfl, g2_rel⟩
    kb_TooMany_init := ⟨fun s us ws X hl => by obtain ⟨_, _, rfl, rfl⟩ := g2_two hl; exact .of_eq rfl, g2_rel⟩
    kb_BadAnswer_init := ⟨fun s us ws X hl => by obtain ⟨_, _, rfl, rfl⟩ := g2_two hl; exact .of_eq rfl, g2_rel⟩
    kb_BadOrder_init := ⟨fun s us ws X hl => by obtain ⟨_, _, rfl, rfl⟩ := g2_two hl; exact .of_eq rfl, g2_rel⟩
    kb_NoAnswer_init := ⟨fun s us ws X hl => by obtain ⟨_, _, rfl, rfl⟩ := g2_two hl; exact .of_eq rfl, g2_rel⟩
    U_NoSetting_NoSetting := xu1_1
    U_NoSetting_NoField := xu1_2
    U_NoSetting_NoValue := xu1_3
    U_NoSetting_NoNumber := xu1_4
    U_NoSetting_NoStream := xu1_5
    U_NoSetting_NoOctetList := xu1_6
    U_NoSetting_NoLog := xu1_7
    U_NoSetting_Held := xu1_8
    U_NoSetting_TooGreat := xu1_9
    U_NoSetting_TooManyStates := xu1_10
    U_NoSetting_NoOctets := xu1_11
    U_NoSetting_BadTable := xu1_12
    U_NoSetting_BadBlock := xu1_13
    U_NoSetting_TooMany := xu1_14
    U_NoSetting_BadAnswer := xu1_15
    U_NoSetting_BadOrder := xu1_16
    U_NoSetting_NoAnswer := xu1_17
    U_NoField_NoSetting := xu2_1
    U_NoField_NoField := xu2_2
    U_NoField_NoValue := xu2_3
    U_NoField_NoNumber := xu2_4
    U_NoField_NoStream := xu2_5
    U_NoField_NoOctetList := xu2_6
    U_NoField_NoLog := xu2_7
    U_NoField_Held := xu2_8
    U_NoField_TooGreat := xu2_9
    U_NoField_TooManyStates := xu2_10
    U_NoField_NoOctets := xu2_11
    U_NoField_BadTable := xu2_12
    U_NoField_BadBlock := xu2_13
    U_NoField_TooMany := xu2_14
    U_NoField_BadAnswer := xu2_15
    U_NoField_BadOrder := xu2_16
    U_NoField_NoAnswer := xu2_17
    U_NoValue_NoSetting := xu3_1
    U_NoValue_NoField := xu3_2
    U_NoValue_NoValue := xu3_3
    U_NoValue_NoNumber := xu3_4
    U_NoValue_NoStream := xu3_5
    U_NoValue_NoOctetList := xu3_6
    U_NoValue_NoLog := xu3_7
    U_NoValue_Held := xu3_8
    U_NoValue_TooGreat := xu3_9
    U_NoValue_TooManyStates := xu3_10
    U_NoValue_NoOctets := xu3_11
    U_NoValue_BadTable := xu3_12
    U_NoValue_BadBlock := xu3_13
    U_NoValue_TooMany := xu3_14
    U_NoValue_BadAnswer := xu3_15
    U_NoValue_BadOrder := xu3_16
    U_NoValue_NoAnswer := xu3_17
    U_NoNumber_NoSetting := xu4_1
    U_NoNumber_NoField := xu4_2
    U_NoNumber_NoValue := xu4_3
    U_NoNumber_NoNumber := xu4_4
    U_NoNumber_NoStream := xu4_5
    U_NoNumber_NoOctetList := xu4_6
    U_NoNumber_NoLog := xu4_7
    U_NoNumber_Held := xu4_8
    U_NoNumber_TooGreat := xu4_9
    U_NoNumber_TooManyStates := xu4_10
    U_NoNumber_NoOctets := xu4_11
    U_NoNumber_BadTable := xu4_12
    U_NoNumber_BadBlock := xu4_13
    U_NoNumber_TooMany := xu4_14
    U_NoNumber_BadAnswer := xu4_15
    U_NoNumber_BadOrder := xu4_16
    U_NoNumber_NoAnswer := xu4_17
    U_NoStream_NoSetting := xu5_1
    U_NoStream_NoField := xu5_2
    U_NoStream_NoValue := xu5_3
    U_NoStream_NoNumber := xu5_4
    U_NoStream_NoStream := xu5_5
    U_NoStream_NoOctetList := xu5_6
    U_NoStream_NoLog := xu5_7
    U_NoStream_Held := xu5_8
    U_NoStream_TooGreat := xu5_9
    U_NoStream_TooManyStates := xu5_10
    U_NoStream_NoOctets := xu5_11
    U_NoStream_BadTable := xu5_12
    U_NoStream_BadBlock := xu5_13
    U_NoStream_TooMany := xu5_14
    U_NoStream_BadAnswer := xu5_15
    U_NoStream_BadOrder := xu5_16
    U_NoStream_NoAnswer := xu5_17
    U_NoOctetList_NoSetting := xu6_1
    U_NoOctetList_NoField := xu6_2
    U_NoOctetList_NoValue := xu6_3
    U_NoOctetList_NoNumber := xu6_4
    U_NoOctetList_NoStream := xu6_5
    U_NoOctetList_NoOctetList := xu6_6
    U_NoOctetList_NoLog := xu6_7
    U_NoOctetList_Held := xu6_8
    U_NoOctetList_TooGreat := xu6_9
    U_NoOctetList_TooManyStates := xu6_10
    U_NoOctetList_NoOctets := xu6_11
    U_NoOctetList_BadTable := xu6_12
    U_NoOctetList_BadBlock := xu6_13
    U_NoOctetList_TooMany := xu6_14
    U_NoOctetList_BadAnswer := xu6_15
    U_NoOctetList_BadOrder := xu6_16
    U_NoOctetList_NoAnswer := xu6_17
    U_NoLog_NoSetting := xu7_1
    U_NoLog_NoField := xu7_2
    U_NoLog_NoValue := xu7_3
    U_NoLog_NoNumber := xu7_4
    U_NoLog_NoStream := xu7_5
    U_NoLog_NoOctetList := xu7_6
    U_NoLog_NoLog := xu7_7
    U_NoLog_Held := xu7_8
    U_NoLog_TooGreat := xu7_9
    U_NoLog_TooManyStates := xu7_10
    U_NoLog_NoOctets := xu7_11
    U_NoLog_BadTable := xu7_12
    U_NoLog_BadBlock := xu7_13
    U_NoLog_TooMany := xu7_14
    U_NoLog_BadAnswer := xu7_15
    U_NoLog_BadOrder := xu7_16
    U_NoLog_NoAnswer := xu7_17
    U_Held_NoSetting := xu8_1
    U_Held_NoField := xu8_2
    U_Held_NoValue := xu8_3
    U_Held_NoNumber := xu8_4
    U_Held_NoStream := xu8_5
    U_Held_NoOctetList := xu8_6
    U_Held_NoLog := xu8_7
    U_Held_Held := xu8_8
    U_Held_TooGreat := xu8_9
    U_Held_TooManyStates := xu8_10
    U_Held_NoOctets := xu8_11
    U_Held_BadTable := xu8_12
    U_Held_BadBlock := xu8_13
    U_Held_TooMany := xu8_14
    U_Held_BadAnswer := xu8_15
    U_Held_BadOrder := xu8_16
    U_Held_NoAnswer := xu8_17
    U_TooGreat_NoSetting := xu9_1
    U_TooGreat_NoField := xu9_2
    U_TooGreat_NoValue := xu9_3
    U_TooGreat_NoNumber := xu9_4
    U_TooGreat_NoStream := xu9_5
    U_TooGreat_NoOctetList := xu9_6
    U_TooGreat_NoLog := xu9_7
    U_TooGreat_Held := xu9_8
    U_TooGreat_TooGreat := xu9_9
    U_TooGreat_TooManyStates := xu9_10
    U_TooGreat_NoOctets := xu9_11
    U_TooGreat_BadTable := xu9_12
    U_TooGreat_BadBlock := xu9_13
    U_TooGreat_TooMany := xu9_14
    U_TooGreat_BadAnswer := xu9_15
    U_TooGreat_BadOrder := xu9_16
    U_TooGreat_NoAnswer := xu9_17
    U_TooManyStates_NoSetting := xu10_1
    U_TooManyStates_NoField := xu10_2
    U_TooManyStates_NoValue := xu10_3
    U_TooManyStates_NoNumber := xu10_4
    U_TooManyStates_NoStream := xu10_5
    U_TooManyStates_NoOctetList := xu10_6
    U_TooManyStates_NoLog := xu10_7
    U_TooManyStates_Held := xu10_8
    U_TooManyStates_TooGreat := xu10_9
    U_TooManyStates_TooManyStates := xu10_10
    U_TooManyStates_NoOctets := xu10_11
    U_TooManyStates_BadTable := xu10_12
    U_TooManyStates_BadBlock := xu10_13
    U_TooManyStates_TooMany := xu10_14
    U_TooManyStates_BadAnswer := xu10_15
    U_TooManyStates_BadOrder := xu10_16
    U_TooManyStates_NoAnswer := xu10_17
    U_NoOctets_NoSetting := xu11_1
    U_NoOctets_NoField := xu11_2
    U_NoOctets_NoValue := xu11_3
    U_NoOctets_NoNumber := xu11_4
    U_NoOctets_NoStream := xu11_5
    U_NoOctets_NoOctetList := xu11_6
    U_NoOctets_NoLog := xu11_7
    U_NoOctets_Held := xu11_8
    U_NoOctets_TooGreat := xu11_9
    U_NoOctets_TooManyStates := xu11_10
    U_NoOctets_NoOctets := xu11_11
    U_NoOctets_BadTable := xu11_12
    U_NoOctets_BadBlock := xu11_13
    U_NoOctets_TooMany := xu11_14
    U_NoOctets_BadAnswer := xu11_15
    U_NoOctets_BadOrder := xu11_16
    U_NoOctets_NoAnswer := xu11_17
    U_BadTable_NoSetting := xu12_1
    U_BadTable_NoField := xu12_2
    U_BadTable_NoValue := xu12_3
    U_BadTable_NoNumber := xu12_4
    U_BadTable_NoStream := xu12_5
    U_BadTable_NoOctetList := xu12_6
    U_BadTable_NoLog := xu12_7
    U_BadTable_Held := xu12_8
    U_BadTable_TooGreat := xu12_9
    U_BadTable_TooManyStates := xu12_10
    U_BadTable_NoOctets := xu12_11
    U_BadTable_BadTable := xu12_12
    U_BadTable_BadBlock := xu12_13
    U_BadTable_TooMany := xu12_14
    U_BadTable_BadAnswer := xu12_15
    U_BadTable_BadOrder := xu12_16
    U_BadTable_NoAnswer := xu12_17
    U_BadBlock_NoSetting := xu13_1
    U_BadBlock_NoField := xu13_2
    U_BadBlock_NoValue := xu13_3
    U_BadBlock_NoNumber := xu13_4
    U_BadBlock_NoStream := xu13_5
    U_BadBlock_NoOctetList := xu13_6
    U_BadBlock_NoLog := xu13_7
    U_BadBlock_Held := xu13_8
    U_BadBlock_TooGreat := xu13_9
    U_BadBlock_TooManyStates := xu13_10
    U_BadBlock_NoOctets := xu13_11
    U_BadBlock_BadTable := xu13_12
    U_BadBlock_BadBlock := xu13_13
    U_BadBlock_TooMany := xu13_14
    U_BadBlock_BadAnswer := xu13_15
    U_BadBlock_BadOrder := xu13_16
    U_BadBlock_NoAnswer := xu13_17
    U_TooMany_NoSetting := xu14_1
    U_TooMany_NoField := xu14_2
    U_TooMany_NoValue := xu14_3
    U_TooMany_NoNumber := xu14_4
    U_TooMany_NoStream := xu14_5
    U_TooMany_NoOctetList := xu14_6
    U_TooMany_NoLog := xu14_7
    U_TooMany_Held := xu14_8
    U_TooMany_TooGreat := xu14_9
    U_TooMany_TooManyStates := xu14_10
    U_TooMany_NoOctets := xu14_11
    U_TooMany_BadTable := xu14_12
    U_TooMany_BadBlock := xu14_13
    U_TooMany_TooMany := xu14_14
    U_TooMany_BadAnswer := xu14_15
    U_TooMany_BadOrder := xu14_16
    U_TooMany_NoAnswer := xu14_17
    U_BadAnswer_NoSetting := xu15_1
    U_BadAnswer_NoField := xu15_2
    U_BadAnswer_NoValue := xu15_3
    U_BadAnswer_NoNumber := xu15_4
    U_BadAnswer_NoStream := xu15_5
    U_BadAnswer_NoOctetList := xu15_6
    U_BadAnswer_NoLog := xu15_7
    U_BadAnswer_Held := xu15_8
    U_BadAnswer_TooGreat := xu15_9
    U_BadAnswer_TooManyStates := xu15_10
    U_BadAnswer_NoOctets := xu15_11
    U_BadAnswer_BadTable := xu15_12
    U_BadAnswer_BadBlock := xu15_13
    U_BadAnswer_TooMany := xu15_14
    U_BadAnswer_BadAnswer := xu15_15
    U_BadAnswer_BadOrder := xu15_16
    U_BadAnswer_NoAnswer := xu15_17
    U_BadOrder_NoSetting := xu16_1
    U_BadOrder_NoField := xu16_2
    U_BadOrder_NoValue := xu16_3
    U_BadOrder_NoNumber := xu16_4
    U_BadOrder_NoStream := xu16_5
    U_BadOrder_NoOctetList := xu16_6
    U_BadOrder_NoLog := xu16_7
    U_BadOrder_Held := xu16_8
    U_BadOrder_TooGreat := xu16_9
    U_BadOrder_TooManyStates := xu16_10
    U_BadOrder_NoOctets := xu16_11
    U_BadOrder_BadTable := xu16_12
    U_BadOrder_BadBlock := xu16_13
    U_BadOrder_TooMany := xu16_14
    U_BadOrder_BadAnswer := xu16_15
    U_BadOrder_BadOrder := xu16_16
    U_BadOrder_NoAnswer := xu16_17
    U_NoAnswer_NoSetting := xu17_1
    U_NoAnswer_NoField := xu17_2
    U_NoAnswer_NoValue := xu17_3
    U_NoAnswer_NoNumber := xu17_4
    U_NoAnswer_NoStream := xu17_5
    U_NoAnswer_NoOctetList := xu17_6
    U_NoAnswer_NoLog := xu17_7
    U_NoAnswer_Held := xu17_8
    U_NoAnswer_TooGreat := xu17_9
    U_NoAnswer_TooManyStates := xu17_10
    U_NoAnswer_NoOctets := xu17_11
    U_NoAnswer_BadTable := xu17_12
    U_NoAnswer_BadBlock := xu17_13
    U_NoAnswer_TooMany := xu17_14
    U_NoAnswer_BadAnswer := xu17_15
    U_NoAnswer_BadOrder := xu17_16
    U_NoAnswer_NoAnswer := xu17_17
    X_BadAnswer := ⟨⟨xg15, xk15, xs15, xd15, xa15, xn_, xt_, xm15⟩, xy15, xz15⟩
    X_BadBlock := ⟨⟨xg13, xk13, xs13, xd13, xa13, xn_, xt_, xm13⟩, xy13, xz13⟩
    X_BadOrder := ⟨⟨xg16, xk16, xs16, xd16, xa16, xn_, xt_, xm16⟩, xy16, xz16⟩
    X_BadTable := ⟨⟨xg12, xk12, xs12, xd12, xa12, xn_, xt_, xm12⟩, xy12, xz12⟩
    X_Held := ⟨⟨xg8, xk8, xs8, xd8, xa8, xn_, xt_, xm8⟩, xy8, xz8⟩
    X_NoAnswer := ⟨⟨xg17, xk17, xs17, xd17, xa17, xn_, xt_, xm17⟩, xy17, xz17⟩
    X_NoField := ⟨⟨xg2, xk2, xs2, xd2, xa2, xn_, xt_, xm2⟩, xy2, xz2⟩
    X_NoLog := ⟨⟨xg7, xk7, xs7, xd7, xa7, xn_, xt_, xm7⟩, xy7, xz7⟩
    X_NoNumber := ⟨⟨xg4, xk4, xs4, xd4, xa4, xn_, xt_, xm4⟩, xy4, xz4⟩
    X_NoOctetList := ⟨⟨xg6, xk6, xs6, xd6, xa6, xn_, xt_, xm6⟩, xy6, xz6⟩
    X_NoOctets := ⟨⟨xg11, xk11, xs11, xd11, xa11, xn_, xt_, xm11⟩, xy11, xz11⟩
    X_NoSetting := ⟨⟨xg1, xk1, xs1, xd1, xa1, xn_, xt_, xm1⟩, xy1, xz1⟩
    X_NoStream := ⟨⟨xg5, xk5, xs5, xd5, xa5, xn_, xt_, xm5⟩, xy5, xz5⟩
    X_NoValue := ⟨⟨xg3, xk3, xs3, xd3, xa3, xn_, xt_, xm3⟩, xy3, xz3⟩
    X_TooGreat := ⟨⟨xg9, xk9, xs9, xd9, xa9, xn_, xt_, xm9⟩, xy9, xz9⟩
    X_TooMany := ⟨⟨xg14, xk14, xs14, xd14, xa14, xn_, xt_, xm14⟩, xy14, xz14⟩
    X_TooManyStates := ⟨⟨xg10, xk10, xs10, xd10, xa10, xn_, xt_, xm10⟩, xy10, xz10⟩
    t_NUMBER_MOST := tk0
    g_NUMBER_MOST := PySem.W.mg_of X G v0
    t_VALUE_MOST := tk1
    g_VALUE_MOST := PySem.W.mg_of X G v1
    a_CHARACTERS := ad2
    g_CHARACTERS := PySem.W.mg_of X G v2
    CHARACTERS_d := ⟨⟨_, _, w2, e2⟩, q2⟩
    z_ValueError := PySem.W.mg_none_of X G z0
    z_all := PySem.W.mg_none_of X G z1
    z_bool := PySem.W.mg_none_of X G z2
    z_enumerate := PySem.W.mg_none_of X G z3
    z_int := PySem.W.mg_none_of X G z4
    z_isinstance := PySem.W.mg_none_of X G z5
    z_len := PySem.W.mg_none_of X G z6
    z_list := PySem.W.mg_none_of X G z7
    z_max := PySem.W.mg_none_of X G z8
    z_min := PySem.W.mg_none_of X G z9
    z_ord := PySem.W.mg_none_of X G z10
    z_range := PySem.W.mg_none_of X G z11
    z_repr := PySem.W.mg_none_of X G z12
    z_str := PySem.W.mg_none_of X G z13
  }
  exact ⟨PySem.W.fnOf "law" "law" (defArgs s_law) (defBody s_law) (defScope s_law) .none kV25 dc25 pm25 an25 cd25 ct25, fun s v => .of_eq rfl, ok_law T⟩
theorem walk {l : PySem.W.OpenLaw} {q : Program} {loose : List Str} {XP : (Str → Option Value) → Heap → Prop} {YP : World → Heap → Prop} {d : DefRec} {K : Params → PySem.W.Frag} (hn : l.most = some 63) (hdf : d.params.defaults = [])
    (hY : ∀ (w : World) (h : Heap), YP w h → (K w.params).In h)
    (F : ∀ (w : World) (mg : Str → Option Value) (fa : Addr) (h : Heap), (K w.params).In h → h.Ns mainGlobals mg → mg d.name = some (.ref fa) →
      ∃ fd : FuncData, (∀ (s : Shared) (u : Value), BindsTo s fd ⟨[u], []⟩ [("script", u)]) ∧ TopOk l.prog w (K w.params) mg 6 fa fd ["script"] (spLaw (K w.params))) :
    PySem.W.WalkO q loose XP YP l.row.toRowW d [] (fun f vs => PySem.call f vs) :=
  walk_top (n := 63) (k := 6) (x := "script") (sp := fun w => spLaw (K w.params)) hn (by decide) hdf ⟨rfl, by decide, by decide⟩ hY F fun _ _ a ns hl _ hS => ⟨a, ns, rfl, hS, hl, fun _ => rfl⟩
end Fld
open PySem PySem.W PyProof.Rows
set_option maxRecDepth 100000 in
set_option maxHeartbeats 0 in
theorem PySem.Challenge.cw_fieldtable_k02_errors_of_octets_holds : PySem.Challenge.rw_fieldtable_k02_errors_of_octets.Holds := by
  w_on; o_law; k_head; (case hw => w_witness2)
  k_fill
  refine Fld.walk (l := PySem.Challenge.rw_fieldtable_k02_errors_of_octets) rfl rfl (fun w h Y => PySem.W.kIn_of Y) ?F
  case F =>
    intro w mg fa h KX G hmg
    refine' Fld.all_mk KX G hmg ?cC0 ?rd0 ?ga0 ?in0 ?rb0 ?rt0 ?rc0 ?cC1 ?kC1 ?eC1 ?tC1 ?uC1 ?xC1 ?cC2 ?kC2 ?eC2 ?tC2 ?uC2 ?xC2 ?cC3 ?kC3 ?eC3 ?tC3 ?uC3 ?xC3 ?cC4 ?kC4 ?eC4 ?tC4 ?uC4 ?xC4 ?cC5 ?kC5 ?eC5 ?tC5 ?uC5 ?xC5 ?cC6 ?kC6 ?eC6 ?tC6 ?uC6 ?xC6 ?cC7 ?kC7 ?eC7 ?tC7 ?uC7 ?xC7 ?cC8 ?kC8 ?eC8 ?tC8 ?uC8 ?xC8 ?cC9 ?kC9 ?eC9 ?tC9 ?uC9 ?xC9 ?cC10 ?kC10 ?eC10 ?tC10 ?uC10 ?xC10 ?cC11 ?kC11 ?eC11 ?tC11 ?uC11 ?xL11 ?rv11 ?sa11 ?nb11 ?cC12 ?kC12 ?eC12 ?tC12 ?uC12 ?xL12 ?rv12 ?sa12 ?nb12 ?cC13 ?kC13 ?eC13 ?tC13 ?uC13 ?xL13 ?rv13 ?sa13 ?nb13 ?cC14 ?kC14 ?eC14 ?tC14 ?uC14 ?xL14 ?rv14 ?sa14 ?nb14 ?cC15 ?kC15 ?eC15 ?tC15 ?uC15 ?xL15 ?rv15 ?sa15 ?nb15 ?cC16 ?kC16 ?eC16 ?tC16 ?uC16 ?xL16 ?rv16 ?sa16 ?nb16 ?cC17 ?kC17 ?eC17 ?tC17 ?uC17 ?xL17 ?rv17 ?sa17 ?nb17 ?xn_ ?xt_ ?xg15 ?xk15 ?xs15 ?xd15 ?xa15 ?xm15 ?xy15 ?xz15 ?xg13 ?xk13 ?xs13 ?xd13 ?xa13 ?xm13 ?xy13 ?xz13 ?xg16 ?xk16 ?xs16 ?xd16 ?xa16 ?xm16 ?xy16 ?xz16 ?xg12 ?xk12 ?xs12 ?xd12 ?xa12 ?xm12 ?xy12 ?xz12 ?xg8 ?xk8 ?xs8 ?xd8 ?xa8 ?xm8 ?xy8 ?xz8 ?xg17 ?xk17 ?xs17 ?xd17 ?xa17 ?xm17 ?xy17 ?xz17 ?xg2 ?xk2 ?xs2 ?xd2 ?xa2 ?xm2 ?xy2 ?xz2 ?xg7 ?xk7 ?xs7 ?xd7 ?xa7 ?xm7 ?xy7 ?xz7 ?xg4 ?xk4 ?xs4 ?xd4 ?xa4 ?xm4 ?xy4 ?xz4 ?xg6 ?xk6 ?xs6 ?xd6 ?xa6 ?xm6 ?xy6 ?xz6 ?xg11 ?xk11 ?xs11 ?xd11 ?xa11 ?xm11 ?xy11 ?xz11 ?xg1 ?xk1 ?xs1 ?xd1 ?xa1 ?xm1 ?xy1 ?xz1 ?xg5 ?xk5 ?xs5 ?xd5 ?xa5 ?xm5 ?xy5 ?xz5 ?xg3 ?xk3 ?xs3 ?xd3 ?xa3 ?xm3 ?xy3 ?xz3 ?xg9 ?xk9 ?xs9 ?xd9 ?xa9 ?xm9 ?xy9 ?xz9 ?xg14 ?xk14 ?xs14 ?xd14 ?xa14 ?xm14 ?xy14 ?xz14 ?xg10 ?xk10 ?xs10 ?xd10 ?xa10 ?xm10 ?xy10 ?xz10 ?xu1_1 ?xu1_2 ?xu1_3 ?xu1_4 ?xu1_5 ?xu1_6 ?xu1_7 ?xu1_8 ?xu1_9 ?xu1_10 ?xu1_11 ?xu1_12 ?xu1_13 ?xu1_14 ?xu1_15 ?xu1_16 ?xu1_17 ?xu2_1 ?xu2_2 ?xu2_3 ?xu2_4 ?xu2_5 ?xu2_6 ?xu2_7 ?xu2_8 ?xu2_9 ?xu2_10 ?xu2_11 ?xu2_12 ?xu2_13 ?xu2_14 ?xu2_15 ?xu2_16 ?xu2_17 ?xu3_1 ?xu3_2 ?xu3_3 ?xu3_4 ?xu3_5 ?xu3_6 ?xu3_7 ?xu3_8 ?xu3_9 ?xu3_10 ?xu3_11 ?xu3_12 ?xu3_13 ?xu3_14 ?xu3_15 ?xu3_16 ?xu3_17 ?xu4_1 ?xu4_2 ?xu4_3 ?xu4_4 ?xu4_5 ?xu4_6 ?xu4_7 ?xu4_8 ?xu4_9 ?xu4_10 ?xu4_11 ?xu4_12 ?xu4_13 ?xu4_14 ?xu4_15 ?xu4_16 ?xu4_17 ?xu5_1 ?xu5_2 ?xu5_3 ?xu5_4 ?xu5_5 ?xu5_6 ?xu5_7 ?xu5_8 ?xu5_9 ?xu5_10 ?xu5_11 ?xu5_12 ?xu5_13 ?xu5_14 ?xu5_15 ?xu5_16 ?xu5_17 ?xu6_1 ?xu6_2 ?xu6_3 ?xu6_4 ?xu6_5 ?xu6_6 ?xu6_7 ?xu6_8 ?xu6_9 ?xu6_10 ?xu6_11 ?xu6_12 ?xu6_13 ?xu6_14 ?xu6_15 ?xu6_16 ?xu6_17 ?xu7_1 ?xu7_2 ?xu7_3 ?xu7_4 ?xu7_5 ?xu7_6 ?xu7_7 ?xu7_8 ?xu7_9 ?xu7_10 ?xu7_11 ?xu7_12 ?xu7_13 ?xu7_14 ?xu7_15 ?xu7_16 ?xu7_17 ?xu8_1 ?xu8_2 ?xu8_3 ?xu8_4 ?xu8_5 ?xu8_6 ?xu8_7 ?xu8_8 ?xu8_9 ?xu8_10 ?xu8_11 ?xu8_12 ?xu8_13 ?xu8_14 ?xu8_15 ?xu8_16 ?xu8_17 ?xu9_1 ?xu9_2 ?xu9_3 ?xu9_4 ?xu9_5 ?xu9_6 ?xu9_7 ?xu9_8 ?xu9_9 ?xu9_10 ?xu9_11 ?xu9_12 ?xu9_13 ?xu9_14 ?xu9_15 ?xu9_16 ?xu9_17 ?xu10_1 ?xu10_2 ?xu10_3 ?xu10_4 ?xu10_5 ?xu10_6 ?xu10_7 ?xu10_8 ?xu10_9 ?xu10_10 ?xu10_11 ?xu10_12 ?xu10_13 ?xu10_14 ?xu10_15 ?xu10_16 ?xu10_17 ?xu11_1 ?xu11_2 ?xu11_3 ?xu11_4 ?xu11_5 ?xu11_6 ?xu11_7 ?xu11_8 ?xu11_9 ?xu11_10 ?xu11_11 ?xu11_12 ?xu11_13 ?xu11_14 ?xu11_15 ?xu11_16 ?xu11_17 ?xu12_1 ?xu12_2 ?xu12_3 ?xu12_4 ?xu12_5 ?xu12_6 ?xu12_7 ?xu12_8 ?xu12_9 ?xu12_10 ?xu12_11 ?xu12_12 ?xu12_13 ?xu12_14 ?xu12_15 ?xu12_16 ?xu12_17 ?xu13_1 ?xu13_2 ?xu13_3 ?xu13_4 ?xu13_5 ?xu13_6 ?xu13_7 ?xu13_8 ?xu13_9 ?xu13_10 ?xu13_11 ?xu13_12 ?xu13_13 ?xu13_14 ?xu13_15 ?xu13_16 ?xu13_17 ?xu14_1 ?xu14_2 ?xu14_3 ?xu14_4 ?xu14_5 ?xu14_6 ?xu14_7 ?xu14_8 ?xu14_9 ?xu14_10 ?xu14_11 ?xu14_12 ?xu14_13 ?xu14_14 ?xu14_15 ?xu14_16 ?xu14_17 ?xu15_1 ?xu15_2 ?xu15_3 ?xu15_4 ?xu15_5 ?xu15_6 ?xu15_7 ?xu15_8 ?xu15_9 ?xu15_10 ?xu15_11 ?xu15_12 ?xu15_13 ?xu15_14 ?xu15_15 ?xu15_16 ?xu15_17 ?xu16_1 ?xu16_2 ?xu16_3 ?xu16_4 ?xu16_5 ?xu16_6 ?xu16_7 ?xu16_8 ?xu16_9 ?xu16_10 ?xu16_11 ?xu16_12 ?xu16_13 ?xu16_14 ?xu16_15 ?xu16_16 ?xu16_17 ?xu17_1 ?xu17_2 ?xu17_3 ?xu17_4 ?xu17_5 ?xu17_6 ?xu17_7 ?xu17_8 ?xu17_9 ?xu17_10 ?xu17_11 ?xu17_12 ?xu17_13 ?xu17_14 ?xu17_15 ?xu17_16 ?xu17_17 ?xv1 ?xv2 ?xv3 ?xv4 ?xv5 ?xv6 ?xv7 ?xv8 ?xv9 ?xv10 ?xv11 ?xv12 ?xv13 ?xv14 ?xv15 ?xv16 ?xv17 ?a0 ?l0 ?c0 ?k0 ?i0 ?t0 ?a1 ?l1 ?c1 ?k1 ?i1 ?t1 ?a2 ?l2 ?c2 ?k2 ?i2 ?t2 ?a3 ?l3 ?c3 ?k3 ?i3 ?t3 ?a4 ?l4 ?c4 ?k4 ?i4 ?t4 ?a5 ?l5 ?c5 ?k5 ?i5 ?t5 ?a6 ?l6 ?c6 ?k6 ?i6 ?t6 ?a7 ?l7 ?c7 ?k7 ?a8 ?l8 ?c8 ?k8 ?a9 ?l9 ?c9 ?k9 ?a10 ?l10 ?c10 ?k10 ?a11 ?l11 ?c11 ?k11 ?a12 ?l12 ?c12 ?k12 ?a13 ?l13 ?c13 ?k13 ?a14 ?l14 ?c14 ?k14 ?a15 ?l15 ?c15 ?k15 ?a16 ?l16 ?c16 ?k16 ?a17 ?l17 ?c17 ?k17 ?a18 ?l18 ?c18 ?k18 ?a19 ?l19 ?c19 ?k19 ?a20 ?l20 ?c20 ?k20 ?a21 ?l21 ?c21 ?k21 ?a22 ?l22 ?c22 ?k22 ?a23 ?l23 ?c23 ?k23 ?a24 ?l24 ?c24 ?k24 ?a25 ?l25 ?c25 ?k25 ?v0 ?v1 ?v2 ?w2 ?e2 ?q2 ?z0 ?z1 ?z2 ?z3 ?z4 ?z5 ?z6 ?z7 ?z8 ?z9 ?z10 ?z11 ?z12 ?z13
    (case cC0 => k_is)
    (case rd0 => k_is)
    (case ga0 => k_is)
    (case in0 => k_is)
    (case rb0 => k_is)
    (case rt0 => k_is)
    (case rc0 => k_is)
    (case cC1 => k_is)
    (case kC1 => k_is)
    (case eC1 => k_is)
    (case tC1 => k_is)
    (case uC1 => k_is)
    (case xC1 => k_exc)
    (case cC2 => k_is)
    (case kC2 => k_is)
    (case eC2 => k_is)
    (case tC2 => k_is)
    (case uC2 => k_is)
    (case xC2 => k_exc)
    (case cC3 => k_is)
    (case kC3 => k_is)
    (case eC3 => k_is)
    (case tC3 => k_is)
    (case uC3 => k_is)
    (case xC3 => k_exc)
    (case cC4 => k_is)
    (case kC4 => k_is)
    (case eC4 => k_is)
    (case tC4 => k_is)
    (case uC4 => k_is)
    (case xC4 => k_exc)
    (case cC5 => k_is)
    (case kC5 => k_is)
    (case eC5 => k_is)
    (case tC5 => k_is)
    (case uC5 => k_is)
    (case xC5 => k_exc)
    (case cC6 => k_is)
    (case kC6 => k_is)
    (case eC6 => k_is)
    (case tC6 => k_is)
    (case uC6 => k_is)
    (case xC6 => k_exc)
    (case cC7 => k_is)
    (case kC7 => k_is)
    (case eC7 => k_is)
    (case tC7 => k_is)
    (case uC7 => k_is)
    (case xC7 => k_exc)
    (case cC8 => k_is)
    (case kC8 => k_is)
    (case eC8 => k_is)
    (case tC8 => k_is)
    (case uC8 => k_is)
    (case xC8 => k_exc)
    (case cC9 => k_is)
    (case kC9 => k_is)
    (case eC9 => k_is)
    (case tC9 => k_is)
    (case uC9 => k_is)
    (case xC9 => k_exc)
    (case cC10 => k_is)
    (case kC10 => k_is)
    (case eC10 => k_is)
    (case tC10 => k_is)
    (case uC10 => k_is)
    (case xC10 => k_exc)
    (case cC11 => k_is)
    (case kC11 => k_is)
    (case eC11 => k_is)
    (case tC11 => k_is)
    (case uC11 => k_is)
    (case xL11 => k_is)
    (case rv11 => first | rfl | decide +kernel)
    (case sa11 => k_is)
    (case nb11 => k_is)
    (case cC12 => k_is)
    (case kC12 => k_is)
    (case eC12 => k_is)
    (case tC12 => k_is)
    (case uC12 => k_is)
    (case xL12 => k_is)
    (case rv12 => first | rfl | decide +kernel)
    (case sa12 => k_is)
    (case nb12 => k_is)
    (case cC13 => k_is)
    (case kC13 => k_is)
    (case eC13 => k_is)
    (case tC13 => k_is)
    (case uC13 => k_is)
    (case xL13 => k_is)
    (case rv13 => first | rfl | decide +kernel)
    (case sa13 => k_is)
    (case nb13 => k_is)
    (case cC14 => k_is)
    (case kC14 => k_is)
    (case eC14 => k_is)
    (case tC14 => k_is)
    (case uC14 => k_is)
    (case xL14 => k_is)
    (case rv14 => first | rfl | decide +kernel)
    (case sa14 => k_is)
    (case nb14 => k_is)
    (case cC15 => k_is)
    (case kC15 => k_is)
    (case eC15 => k_is)
    (case tC15 => k_is)
    (case uC15 => k_is)
    (case xL15 => k_is)
    (case rv15 => first | rfl | decide +kernel)
    (case sa15 => k_is)
    (case nb15 => k_is)
    (case cC16 => k_is)
    (case kC16 => k_is)
    (case eC16 => k_is)
    (case tC16 => k_is)
    (case uC16 => k_is)
    (case xL16 => k_is)
    (case rv16 => first | rfl | decide +kernel)
    (case sa16 => k_is)
    (case nb16 => k_is)
    (case cC17 => k_is)
    (case kC17 => k_is)
    (case eC17 => k_is)
    (case tC17 => k_is)
    (case uC17 => k_is)
    (case xL17 => k_is)
    (case rv17 => first | rfl | decide +kernel)
    (case sa17 => k_is)
    (case nb17 => k_is)
    (case xn_ => k_is)
    (case xt_ => k_is)
    (case xg15 => k_is)
    (case xk15 => k_is)
    (case xs15 => k_is)
    (case xd15 => k_is)
    (case xa15 => k_is)
    (case xm15 => k_is)
    (case xy15 => k_is)
    (case xz15 => k_is)
    (case xg13 => k_is)
    (case xk13 => k_is)
    (case xs13 => k_is)
    (case xd13 => k_is)
    (case xa13 => k_is)
    (case xm13 => k_is)
    (case xy13 => k_is)
    (case xz13 => k_is)
    (case xg16 => k_is)
    (case xk16 => k_is)
    (case xs16 => k_is)
    (case xd16 => k_is)
    (case xa16 => k_is)
    (case xm16 => k_is)
    (case xy16 => k_is)
    (case xz16 => k_is)
    (case xg12 => k_is)
    (case xk12 => k_is)
    (case xs12 => k_is)
    (case xd12 => k_is)
    (case xa12 => k_is)
    (case xm12 => k_is)
    (case xy12 => k_is)
    (case xz12 => k_is)
    (case xg8 => k_is)
    (case xk8 => k_is)
    (case xs8 => k_is)
    (case xd8 => k_is)
    (case xa8 => k_is)
    (case xm8 => k_is)
    (case xy8 => k_is)
    (case xz8 => k_is)
    (case xg17 => k_is)
    (case xk17 => k_is)
    (case xs17 => k_is)
    (case xd17 => k_is)
    (case xa17 => k_is)
    (case xm17 => k_is)
    (case xy17 => k_is)
    (case xz17 => k_is)
    (case xg2 => k_is)
    (case xk2 => k_is)
    (case xs2 => k_is)
    (case xd2 => k_is)
    (case xa2 => k_is)
    (case xm2 => k_is)
    (case xy2 => k_is)
    (case xz2 => k_is)
    (case xg7 => k_is)
    (case xk7 => k_is)
    (case xs7 => k_is)
    (case xd7 => k_is)
    (case xa7 => k_is)
    (case xm7 => k_is)
    (case xy7 => k_is)
    (case xz7 => k_is)
    (case xg4 => k_is)
    (case xk4 => k_is)
    (case xs4 => k_is)
    (case xd4 => k_is)
    (case xa4 => k_is)
    (case xm4 => k_is)
    (case xy4 => k_is)
    (case xz4 => k_is)
    (case xg6 => k_is)
    (case xk6 => k_is)
    (case xs6 => k_is)
    (case xd6 => k_is)
    (case xa6 => k_is)
    (case xm6 => k_is)
    (case xy6 => k_is)
    (case xz6 => k_is)
    (case xg11 => k_is)
    (case xk11 => k_is)
    (case xs11 => k_is)
    (case xd11 => k_is)
    (case xa11 => k_is)
    (case xm11 => k_is)
    (case xy11 => k_is)
    (case xz11 => k_is)
    (case xg1 => k_is)
    (case xk1 => k_is)
    (case xs1 => k_is)
    (case xd1 => k_is)
    (case xa1 => k_is)
    (case xm1 => k_is)
    (case xy1 => k_is)
    (case xz1 => k_is)
    (case xg5 => k_is)
    (case xk5 => k_is)
    (case xs5 => k_is)
    (case xd5 => k_is)
    (case xa5 => k_is)
    (case xm5 => k_is)
    (case xy5 => k_is)
    (case xz5 => k_is)
    (case xg3 => k_is)
    (case xk3 => k_is)
    (case xs3 => k_is)
    (case xd3 => k_is)
    (case xa3 => k_is)
    (case xm3 => k_is)
    (case xy3 => k_is)
    (case xz3 => k_is)
    (case xg9 => k_is)
    (case xk9 => k_is)
    (case xs9 => k_is)
    (case xd9 => k_is)
    (case xa9 => k_is)
    (case xm9 => k_is)
    (case xy9 => k_is)
    (case xz9 => k_is)
    (case xg14 => k_is)
    (case xk14 => k_is)
    (case xs14 => k_is)
    (case xd14 => k_is)
    (case xa14 => k_is)
    (case xm14 => k_is)
    (case xy14 => k_is)
    (case xz14 => k_is)
    (case xg10 => k_is)
    (case xk10 => k_is)
    (case xs10 => k_is)
    (case xd10 => k_is)
    (case xa10 => k_is)
    (case xm10 => k_is)
    (case xy10 => k_is)
    (case xz10 => k_is)
    (case xu1_1 => k_is)
    (case xu1_2 => k_is)
    (case xu1_3 => k_is)
    (case xu1_4 => k_is)
    (case xu1_5 => k_is)
    (case xu1_6 => k_is)
    (case xu1_7 => k_is)
    (case xu1_8 => k_is)
    (case xu1_9 => k_is)
    (case xu1_10 => k_is)
    (case xu1_11 => k_is)
    (case xu1_12 => k_is)
    (case xu1_13 => k_is)
    (case xu1_14 => k_is)
    (case xu1_15 => k_is)
    (case xu1_16 => k_is)
    (case xu1_17 => k_is)
    (case xu2_1 => k_is)
    (case xu2_2 => k_is)
    (case xu2_3 => k_is)
    (case xu2_4 => k_is)
    (case xu2_5 => k_is)
    (case xu2_6 => k_is)
    (case xu2_7 => k_is)
    (case xu2_8 => k_is)
    (case xu2_9 => k_is)
    (case xu2_10 => k_is)
    (case xu2_11 => k_is)
    (case xu2_12 => k_is)
    (case xu2_13 => k_is)
    (case xu2_14 => k_is)
    (case xu2_15 => k_is)
    (case xu2_16 => k_is)
    (case xu2_17 => k_is)
    (case xu3_1 => k_is)
    (case xu3_2 => k_is)
    (case xu3_3 => k_is)
    (case xu3_4 => k_is)
    (case xu3_5 => k_is)
    (case xu3_6 => k_is)
    (case xu3_7 => k_is)
    (case xu3_8 => k_is)
    (case xu3_9 => k_is)
    (case xu3_10 => k_is)
    (case xu3_11 => k_is)
    (case xu3_12 => k_is)
    (case xu3_13 => k_is)
    (case xu3_14 => k_is)
    (case xu3_15 => k_is)
    (case xu3_16 => k_is)
    (case xu3_17 => k_is)
    (case xu4_1 => k_is)
    (case xu4_2 => k_is)
    (case xu4_3 => k_is)
    (case xu4_4 => k_is)
    (case xu4_5 => k_is)
    (case xu4_6 => k_is)
    (case xu4_7 => k_is)
    (case xu4_8 => k_is)
    (case xu4_9 => k_is)
    (case xu4_10 => k_is)
    (case xu4_11 => k_is)
    (case xu4_12 => k_is)
    (case xu4_13 => k_is)
    (case xu4_14 => k_is)
    (case xu4_15 => k_is)
    (case xu4_16 => k_is)
    (case xu4_17 => k_is)
    (case xu5_1 => k_is)
    (case xu5_2 => k_is)
    (case xu5_3 => k_is)
    (case xu5_4 => k_is)
    (case xu5_5 => k_is)
    (case xu5_6 => k_is)
    (case xu5_7 => k_is)
    (case xu5_8 => k_is)
    (case xu5_9 => k_is)
    (case xu5_10 => k_is)
    (case xu5_11 => k_is)
    (case xu5_12 => k_is)
    (case xu5_13 => k_is)
    (case xu5_14 => k_is)
    (case xu5_15 => k_is)
    (case xu5_16 => k_is)
    (case xu5_17 => k_is)
    (case xu6_1 => k_is)
    (case xu6_2 => k_is)
    (case xu6_3 => k_is)
    (case xu6_4 => k_is)
    (case xu6_5 => k_is)
    (case xu6_6 => k_is)
    (case xu6_7 => k_is)
    (case xu6_8 => k_is)
    (case xu6_9 => k_is)
    (case xu6_10 => k_is)
    (case xu6_11 => k_is)
    (case xu6_12 => k_is)
    (case xu6_13 => k_is)
    (case xu6_14 => k_is)
    (case xu6_15 => k_is)
    (case xu6_16 => k_is)
    (case xu6_17 => k_is)
    (case xu7_1 => k_is)
    (case xu7_2 => k_is)
    (case xu7_3 => k_is)
    (case xu7_4 => k_is)
    (case xu7_5 => k_is)
    (case xu7_6 => k_is)
    (case xu7_7 => k_is)
    (case xu7_8 => k_is)
    (case xu7_9 => k_is)
    (case xu7_10 => k_is)
    (case xu7_11 => k_is)
    (case xu7_12 => k_is)
    (case xu7_13 => k_is)
    (case xu7_14 => k_is)
    (case xu7_15 => k_is)
    (case xu7_16 => k_is)
    (case xu7_17 => k_is)
    (case xu8_1 => k_is)
    (case xu8_2 => k_is)
    (case xu8_3 => k_is)
    (case xu8_4 => k_is)
    (case xu8_5 => k_is)
    (case xu8_6 => k_is)
    (case xu8_7 => k_is)
    (case xu8_8 => k_is)
    (case xu8_9 => k_is)
    (case xu8_10 => k_is)
    (case xu8_11 => k_is)
    (case xu8_12 => k_is)
    (case xu8_13 => k_is)
    (case xu8_14 => k_is)
    (case xu8_15 => k_is)
    (case xu8_16 => k_is)
    (case xu8_17 => k_is)
    (case xu9_1 => k_is)
    (case xu9_2 => k_is)
    (case xu9_3 => k_is)
    (case xu9_4 => k_is)
    (case xu9_5 => k_is)
    (case xu9_6 => k_is)
    (case xu9_7 => k_is)
    (case xu9_8 => k_is)
    (case xu9_9 => k_is)
    (case xu9_10 => k_is)
    (case xu9_11 => k_is)
    (case xu9_12 => k_is)
    (case xu9_13 => k_is)
    (case xu9_14 => k_is)
    (case xu9_15 => k_is)
    (case xu9_16 => k_is)
    (case xu9_17 => k_is)
    (case xu10_1 => k_is)
    (case xu10_2 => k_is)
    (case xu10_3 => k_is)
    (case xu10_4 => k_is)
    (case xu10_5 => k_is)
    (case xu10_6 => k_is)
    (case xu10_7 => k_is)
    (case xu10_8 => k_is)
    (case xu10_9 => k_is)
    (case xu10_10 => k_is)
    (case xu10_11 => k_is)
    (case xu10_12 => k_is)
    (case xu10_13 => k_is)
    (case xu10_14 => k_is)
    (case xu10_15 => k_is)
    (case xu10_16 => k_is)
    (case xu10_17 => k_is)
    (case xu11_1 => k_is)
    (case xu11_2 => k_is)
    (case xu11_3 => k_is)
    (case xu11_4 => k_is)
    (case xu11_5 => k_is)
    (case xu11_6 => k_is)
    (case xu11_7 => k_is)
    (case xu11_8 => k_is)
    (case xu11_9 => k_is)
    (case xu11_10 => k_is)
    (case xu11_11 => k_is)
    (case xu11_12 => k_is)
    (case xu11_13 => k_is)
    (case xu11_14 => k_is)
    (case xu11_15 => k_is)
    (case xu11_16 => k_is)
    (case xu11_17 => k_is)
    (case xu12_1 => k_is)
    (case xu12_2 => k_is)
    (case xu12_3 => k_is)
    (case xu12_4 => k_is)
    (case xu12_5 => k_is)
    (case xu12_6 => k_is)
    (case xu12_7 => k_is)
    (case xu12_8 => k_is)
    (case xu12_9 => k_is)
    (case xu12_10 => k_is)
    (case xu12_11 => k_is)
    (case xu12_12 => k_is)
    (case xu12_13 => k_is)
    (case xu12_14 => k_is)
    (case xu12_15 => k_is)
    (case xu12_16 => k_is)
    (case xu12_17 => k_is)
    (case xu13_1 => k_is)
    (case xu13_2 => k_is)
    (case xu13_3 => k_is)
    (case xu13_4 => k_is)
    (case xu13_5 => k_is)
    (case xu13_6 => k_is)
    (case xu13_7 => k_is)
    (case xu13_8 => k_is)
    (case xu13_9 => k_is)
    (case xu13_10 => k_is)
    (case xu13_11 => k_is)
    (case xu13_12 => k_is)
    (case xu13_13 => k_is)
    (case xu13_14 => k_is)
    (case xu13_15 => k_is)
    (case xu13_16 => k_is)
    (case xu13_17 => k_is)
    (case xu14_1 => k_is)
    (case xu14_2 => k_is)
    (case xu14_3 => k_is)
    (case xu14_4 => k_is)
    (case xu14_5 => k_is)
    (case xu14_6 => k_is)
    (case xu14_7 => k_is)
    (case xu14_8 => k_is)
    (case xu14_9 => k_is)
    (case xu14_10 => k_is)
    (case xu14_11 => k_is)
    (case xu14_12 => k_is)
    (case xu14_13 => k_is)
    (case xu14_14 => k_is)
    (case xu14_15 => k_is)
    (case xu14_16 => k_is)
    (case xu14_17 => k_is)
    (case xu15_1 => k_is)
    (case xu15_2 => k_is)
    (case xu15_3 => k_is)
    (case xu15_4 => k_is)
    (case xu15_5 => k_is)
    (case xu15_6 => k_is)
    (case xu15_7 => k_is)
    (case xu15_8 => k_is)
    (case xu15_9 => k_is)
    (case xu15_10 => k_is)
    (case xu15_11 => k_is)
    (case xu15_12 => k_is)
    (case xu15_13 => k_is)
    (case xu15_14 => k_is)
    (case xu15_15 => k_is)
    (case xu15_16 => k_is)
    (case xu15_17 => k_is)
    (case xu16_1 => k_is)
    (case xu16_2 => k_is)
    (case xu16_3 => k_is)
    (case xu16_4 => k_is)
    (case xu16_5 => k_is)
    (case xu16_6 => k_is)
    (case xu16_7 => k_is)
    (case xu16_8 => k_is)
    (case xu16_9 => k_is)
    (case xu16_10 => k_is)
    (case xu16_11 => k_is)
    (case xu16_12 => k_is)
    (case xu16_13 => k_is)
    (case xu16_14 => k_is)
    (case xu16_15 => k_is)
    (case xu16_16 => k_is)
    (case xu16_17 => k_is)
    (case xu17_1 => k_is)
    (case xu17_2 => k_is)
    (case xu17_3 => k_is)
    (case xu17_4 => k_is)
    (case xu17_5 => k_is)
    (case xu17_6 => k_is)
    (case xu17_7 => k_is)
    (case xu17_8 => k_is)
    (case xu17_9 => k_is)
    (case xu17_10 => k_is)
    (case xu17_11 => k_is)
    (case xu17_12 => k_is)
    (case xu17_13 => k_is)
    (case xu17_14 => k_is)
    (case xu17_15 => k_is)
    (case xu17_16 => k_is)
    (case xu17_17 => k_is)
    (case xv1 => k_is)
    (case xv2 => k_is)
    (case xv3 => k_is)
    (case xv4 => k_is)
    (case xv5 => k_is)
    (case xv6 => k_is)
    (case xv7 => k_is)
    (case xv8 => k_is)
    (case xv9 => k_is)
    (case xv10 => k_is)
    (case xv11 => k_is)
    (case xv12 => k_is)
    (case xv13 => k_is)
    (case xv14 => k_is)
    (case xv15 => k_is)
    (case xv16 => k_is)
    (case xv17 => k_is)
    (case a0 => k_is)
    (case l0 => k_is)
    (case c0 => k_is)
    (case k0 => k_is)
    (case i0 => k_is)
    (case t0 => k_is)
    (case a1 => k_is)
    (case l1 => k_is)
    (case c1 => k_is)
    (case k1 => k_is)
    (case i1 => k_is)
    (case t1 => k_is)
    (case a2 => k_is)
    (case l2 => k_is)
    (case c2 => k_is)
    (case k2 => k_is)
    (case i2 => k_is)
    (case t2 => k_is)
    (case a3 => k_is)
    (case l3 => k_is)
    (case c3 => k_is)
    (case k3 => k_is)
    (case i3 => k_is)
    (case t3 => k_is)
    (case a4 => k_is)
    (case l4 => k_is)
    (case c4 => k_is)
    (case k4 => k_is)
    (case i4 => k_is)
    (case t4 => k_is)
    (case a5 => k_is)
    (case l5 => k_is)
    (case c5 => k_is)
    (case k5 => k_is)
    (case i5 => k_is)
    (case t5 => k_is)
    (case a6 => k_is)
    (case l6 => k_is)
    (case c6 => k_is)
    (case k6 => k_is)
    (case i6 => k_is)
    (case t6 => k_is)
    (case a7 => k_is)
    (case l7 => k_is)
    (case c7 => k_is)
    (case k7 => k_is)
    (case a8 => k_is)
    (case l8 => k_is)
    (case c8 => k_is)
    (case k8 => k_is)
    (case a9 => k_is)
    (case l9 => k_is)
    (case c9 => k_is)
    (case k9 => k_is)
    (case a10 => k_is)
    (case l10 => k_is)
    (case c10 => k_is)
    (case k10 => k_is)
    (case a11 => k_is)
    (case l11 => k_is)
    (case c11 => k_is)
    (case k11 => k_is)
    (case a12 => k_is)
    (case l12 => k_is)
    (case c12 => k_is)
    (case k12 => k_is)
    (case a13 => k_is)
    (case l13 => k_is)
    (case c13 => k_is)
    (case k13 => k_is)
    (case a14 => k_is)
    (case l14 => k_is)
    (case c14 => k_is)
    (case k14 => k_is)
    (case a15 => k_is)
    (case l15 => k_is)
    (case c15 => k_is)
    (case k15 => k_is)
    (case a16 => k_is)
    (case l16 => k_is)
    (case c16 => k_is)
    (case k16 => k_is)
    (case a17 => k_is)
    (case l17 => k_is)
    (case c17 => k_is)
    (case k17 => k_is)
    (case a18 => k_is)
    (case l18 => k_is)
    (case c18 => k_is)
    (case k18 => k_is)
    (case a19 => k_is)
    (case l19 => k_is)
    (case c19 => k_is)
    (case k19 => k_is)
    (case a20 => k_is)
    (case l20 => k_is)
    (case c20 => k_is)
    (case k20 => k_is)
    (case a21 => k_is)
    (case l21 => k_is)
    (case c21 => k_is)
    (case k21 => k_is)
    (case a22 => k_is)
    (case l22 => k_is)
    (case c22 => k_is)
    (case k22 => k_is)
    (case a23 => k_is)
    (case l23 => k_is)
    (case c23 => k_is)
    (case k23 => k_is)
    (case a24 => k_is)
    (case l24 => k_is)
    (case c24 => k_is)
    (case k24 => k_is)
    (case a25 => k_is)
    (case l25 => k_is)
    (case c25 => k_is)
    (case k25 => k_is)
    (case v0 => k_is)
    (case v1 => k_is)
    (case v2 => k_is)
    (case w2 => k_is)
    (case e2 => repeat (first | exact Paired.nil | refine Paired.cons ⟨⟨_, rfl⟩, rfl, ⟨_, rfl⟩⟩ ?_))
    (case q2 => first | rfl | decide +kernel | k_is)
    (case z0 => k_is)
    (case z1 => k_is)
    (case z2 => k_is)
    (case z3 => k_is)
    (case z4 => k_is)
    (case z5 => k_is)
    (case z6 => k_is)
    (case z7 => k_is)
    (case z8 => k_is)
    (case z9 => k_is)
    (case z10 => k_is)
    (case z11 => k_is)
    (case z12 => k_is)
    (case z13 => k_is)
